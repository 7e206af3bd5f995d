"""What a calendar and a date have, and how much of it."""

MOST_DATES = 6
MOST_RINGS = 3
MOST_TAGS = 5
MOST_OTHERS = 3
MOST_NUMBER = 9999


class Date:
    """A date; its day and its minute are None until they are known."""

    def __init__(self):
        self.day = None
        self.minute = None
        self.length = 0
        self.name = []
        self.rings = []
        self.tags = []
        self.others = []


class Calendar:
    """A calendar, at first without a name and without dates."""

    def __init__(self):
        self.title = []
        self.dates = []

"""The program beside a second one, written otherwise, on many made-up calls."""

import datetime
import random
import re
import unittest

from tests.helper import add, ask, load, long, name, other, ring, row, tag, told

FIRST_DAY = datetime.date(2000, 1, 1)
NAME = re.compile(rb"(?:[^\x00-\x1f\x7f\\,;]|\\[n\\,;])+", re.DOTALL)
SPECIAL = {b"\n": b"\\n", b"\\": b"\\\\", b",": b"\\,", b";": b"\\;"}


class Fault(Exception):
    pass


def need(right, kind):
    if not right:
        raise Fault(kind)


def meant(value):
    need(NAME.fullmatch(value), 3)
    back = {told_as: byte for byte, told_as in SPECIAL.items()}
    name_bytes = re.sub(rb"\\.", lambda found: back[found[0]], value)
    need(len(name_bytes) <= 40, 3)
    return name_bytes


def moment(value):
    need(re.fullmatch(rb"20\d\d-\d\d-\d\d \d\d:\d\d", value), 3)
    try:
        return datetime.datetime.strptime(value.decode(), "%Y-%m-%d %H:%M")
    except ValueError:
        raise Fault(3)


def number(value, pattern):
    need(re.fullmatch(pattern, value), 3)
    return int(value)


class Model:
    def __init__(self):
        self.title = b""
        self.dates = []

    def read_outside(self, key, value):
        if key == b"title":
            need(not self.dates, 2)
            title = meant(value)
            need(not self.title, 4)
            self.title = title
            return None
        need(key == b"begin", 2)
        need(value == b"date", 3)
        need(len(self.dates) < 6, 4)
        self.dates.append({"rings": set(), "tags": [], "others": []})
        return self.dates[-1]

    def read_within(self, date, key, value):
        if key in (b"name", b"at", b"long"):
            found = (meant(value) if key == b"name" else moment(value) if key == b"at"
                     else number(value, rb"[1-9]\d{0,3}"))
            need(key not in date, 4)
            date[key] = found
        elif key == b"ring":
            found = number(value, rb"0|[1-9]\d{0,3}")
            need(found not in date["rings"] and len(date["rings"]) < 3, 4)
            date["rings"].add(found)
        elif key == b"tag":
            need(re.fullmatch(rb"[a-z]{1,8}(,[a-z]{1,8})*", value), 3)
            date["tags"] += value.split(b",")
            need(len(set(date["tags"])) == len(date["tags"]) <= 5, 4)
        elif key == b"end":
            need(value == b"date", 3)
            need(b"at" in date, 5)
            return None
        else:
            need(key not in (b"begin", b"title"), 2)
            need(re.fullmatch(rb"x-.+", key), 6)
            need(len(date["others"]) < 3, 4)
            date["others"].append((key, value))
        return date

    def read(self, text):
        text = text.replace(b"\n ", b"")
        lines = text.split(b"\n")
        rest = lines.pop()
        date = None
        for place, line in enumerate(lines + [rest] * bool(rest)):
            try:
                found = re.fullmatch(rb"([a-z-]{1,16}):(.*)", line, re.DOTALL)
                need(found, 1)
                date = self.read_within(date, *found.groups()) if date else self.read_outside(*found.groups())
                need(place < len(lines), 1)
            except Fault as wrong:
                return -100 - 10 * place - wrong.args[0]
        return -105 - 10 * len(lines) if date else len(self.dates)

    def lines(self):
        if self.title:
            yield b"title:" + b"".join(SPECIAL.get(bytes([byte]), bytes([byte])) for byte in self.title)
        for date in self.dates:
            yield b"begin:date"
            if date.get(b"name"):
                yield b"name:" + b"".join(SPECIAL.get(bytes([byte]), bytes([byte])) for byte in date[b"name"])
            yield b"at:" + date[b"at"].strftime("%Y-%m-%d %H:%M").encode()
            if date.get(b"long"):
                yield b"long:%d" % date[b"long"]
            for ahead in sorted(date["rings"]):
                yield b"ring:%d" % ahead
            if date["tags"]:
                yield b"tag:" + b",".join(date["tags"])
            for other_line in date["others"]:
                yield b":".join(other_line)
            yield b"end:date"

    def told(self):
        return b"".join(line[:1] + re.sub(rb"(?s)(.{23})(?=.)", rb"\1\n ", line[1:]) + b"\n" for line in self.lines())

    def add(self, year, month, day, minute):
        try:
            at = datetime.datetime(year, month, day, *divmod(minute, 60))
        except (ValueError, OverflowError):
            return -1
        if not 2000 <= year <= 2099:
            return -1
        if len(self.dates) == 6:
            return -5
        self.dates.append({b"at": at, "rings": set(), "tags": [], "others": []})
        return len(self.dates) - 1

    def name(self, date, given):
        if not re.fullmatch(rb"(?s)[^\x00-\x09\x0b-\x1f\x7f]{0,40}", given):
            return -1
        had = len(date.get(b"name", b""))
        date[b"name"] = given
        return had

    def long(self, date, length):
        if length > 9999:
            return -1
        had = date.get(b"long", 0)
        date[b"long"] = length
        return had

    def ring(self, date, ahead):
        if ahead > 9999:
            return -1
        if ahead not in date["rings"] and len(date["rings"]) == 3:
            return -5
        date["rings"] ^= {ahead}
        return int(ahead in date["rings"])

    def tag(self, date, given):
        if not re.fullmatch(rb"[a-z]{1,8}", given):
            return -1
        if given in date["tags"]:
            date["tags"].remove(given)
            return 0
        if len(date["tags"]) == 5:
            return -5
        date["tags"].append(given)
        return 1

    def other(self, date, known_as, value):
        if not re.fullmatch(rb"x-[a-z-]{1,14}", known_as) or not re.fullmatch(rb"[^\n]{0,60}", value):
            return -1
        if len(date["others"]) == 3:
            return -5
        date["others"].append((known_as, value))
        return len(date["others"])


def expected(calls):
    """What the model answers to calls that are given as tuples of a word and what is handed over."""
    model = Model()
    answered = []
    for word, *given in calls:
        if word == "load":
            fresh = Model()
            answered.append([fresh.read(given[0])])
            model = fresh if answered[-1][0] >= 0 else model
        elif word == "told":
            text = model.told()
            answered.append([len(text)] + list(text))
        elif word == "add":
            answered.append([model.add(*given)])
        elif given[0] >= len(model.dates):
            answered.append([-3])
        else:
            answered.append([getattr(model, word)(model.dates[given[0]], *given[1:])])
    return answered


LAID = {"load": load, "told": told, "add": add, "name": name, "long": long, "ring": ring, "tag": tag, "other": other}


class MadeUp:
    """Calls and texts that are right mostly, and wrong in small ways often enough."""

    def __init__(self, seed):
        self.random = random.Random(seed)

    def some_bytes(self, most):
        signs = self.random.choice((b"ab", b"a,;\\n \n", b"xyz-:", bytes(range(32, 127)), bytes(range(256))))
        return bytes(self.random.choices(signs, k=self.random.choice((0, 1, 2, 3, self.random.randint(0, most), most))))

    def time(self):
        pick = self.random.choice
        year, month, day = pick((2000, 2024, 2026, 2099, 2100)), pick((1, 2, 11, 12, 13)), pick((0, 1, 28, 29, 30, 31))
        return b"%d-%02d-%02d %02d:%02d" % (year, month, day, pick((0, 9, 23, 24)), pick((0, 9, 59, 60)))

    def right_time(self):
        return (FIRST_DAY + datetime.timedelta(days=self.random.randrange(36525))).isoformat().encode() + b" 09:30"

    def tags(self):
        return b",".join(self.random.choice((b"a", b"b", b"c", b"home", b"abcdefgh", b"")) for _ in range(
            self.random.choice((1, 1, 1, 2, 3, 6))))

    def line(self):
        pick = self.random.choice
        told_name = b"".join(SPECIAL.get(bytes([byte]), bytes([byte])) for byte in self.some_bytes(41))
        return pick((
            b"name:" + told_name, b"name:tea", b"name:" + self.some_bytes(40), b"at:" + self.time(), b"at:" + self.right_time(),
            b"long:" + pick((b"0", b"5", b"9999", b"10000", b"05")), b"ring:" + pick((b"0", b"5", b"60", b"9999", b"05")),
            b"ring:%d" % self.random.randint(0, 9999), b"tag:" + self.tags(), b"tag:" + pick((b"d", b"e", b"f,g")),
            b"x-a:" + self.some_bytes(70), b"x-bc:1", b"x-:", b"foo:1", b"begin:date", b"end:date", b"title:" + told_name,
            self.some_bytes(20)))

    def likely_line(self):
        return self.random.choice((
            b"name:t\\;ea", b"long:45", b"ring:%d" % self.random.randint(0, 12), b"tag:" + self.random.choice((b"a", b"b,c")),
            b"x-place:kitchen, upstairs, at the table"))

    def text(self):
        pick = self.random.choice
        lines = [b"title:At home"] * pick((0, 1))
        for _ in range(pick((0, 1, 1, 2, 2, 3, 6, 7))):
            within = [b"at:" + self.right_time()] + [self.likely_line() for _ in range(pick((0, 1, 2, 4, 7)))]
            self.random.shuffle(within)
            lines += [b"begin:date"] + within + [b"end:date"]
        for _ in range(pick((0, 0, 1, 1, 2))):
            lines.insert(self.random.randint(0, len(lines)), self.line())
        if lines and pick((True, False, False, False)):
            lines.pop(self.random.randrange(len(lines)))
        text = b"".join(line + b"\n" for line in lines)
        for _ in range(pick((0, 0, 1, 3))):
            place = self.random.randint(0, len(text))
            text = text[:place] + pick((b"\n ", b"\n ", b"\n \n ", b"\n\n  ", b"\n")) + text[place:]
        return text[:pick((700, 700, 700, self.random.randint(0, 700)))][:700]

    def call(self):
        pick = self.random.choice
        which = pick((0, 0, 0, 1, 1, 2, 5, 6, 20))
        return pick((
            ("load", self.text()), ("told",), ("told",),
            ("add", pick((1999, 2000, 2026, 2024, 2099, 2100)), pick((0, 1, 2, 12, 13)), pick((0, 1, 28, 29, 30, 31, 32)),
             pick((0, 570, 1439, 1440))),
            ("add", 2026, 11, 16, 570), ("name", which, self.some_bytes(41)), ("long", which, pick((0, 1, 9999, 10000))),
            ("ring", which, pick((0, 1, 2, 3, 9999, 10000))), ("ring", which, pick((0, 1, 2, 3))),
            ("tag", which, pick((b"a", b"b", b"c", b"d", b"e", b"f", b"", b"abcdefgh", b"abcdefghi", b"A"))),
            ("tag", which, pick((b"a", b"b", b"c", b"d", b"e", b"f"))),
            ("other", which, pick((b"x-a", b"x-", b"x-" + b"b" * 14, b"x-" + b"b" * 15, b"y-a")), self.some_bytes(61)),
        ))


class AgainstModel(unittest.TestCase):
    def check(self, calls):
        laid = [LAID[word](*[row(part) if isinstance(part, bytes) else part for part in given]) for word, *given in calls]
        self.assertEqual(ask(*laid), expected(calls), calls)

    def test_calls(self):
        for seed in range(600):
            made_up = MadeUp(seed)
            self.check([made_up.call() for _ in range(60)])

    def test_texts(self):
        for seed in range(1500):
            made_up = MadeUp(seed)
            calls = [("load", made_up.text()), ("told",), ("load", made_up.text()), ("told",)]
            self.check(calls)

    def test_made_up_texts_have_each_answer(self):
        seen = {}
        for seed in range(1500):
            answered = expected([("load", MadeUp(seed).text())])[0][0]
            kind = answered if answered >= 0 else -((-answered - 100) % 10)
            seen[kind] = seen.get(kind, 0) + 1
        for kind in (-6, -5, -4, -3, -2, -1, 0, 1, 2, 3):
            self.assertGreater(seen.get(kind, 0), 10, (kind, seen))

    def test_what_is_told_is_read_again(self):
        for seed in range(600):
            made_up = MadeUp(seed)
            laid = []
            for _ in range(40):
                word, *given = made_up.call()
                laid.append(LAID[word](*[row(part) if isinstance(part, bytes) else part for part in given]))
            text = ask(*laid, told())[-1][1:]
            if len(text) <= 700:
                self.assertEqual(ask(load(text), told())[1][1:], text)


if __name__ == "__main__":
    unittest.main()

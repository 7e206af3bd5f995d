"""The program beside a second one, written otherwise, on many made-up calls."""

import datetime
import random
import re
import unittest

from calendartext.calendars import answers
from tests.helper import (add, ask, cut, date, drop, find, join, load, long, name, other, ring, row, same, tag, title, told)

FIRST_DAY = datetime.date(2000, 1, 1)
NAME = re.compile(rb"(?:[^\x00-\x1f\x7f\\,;]|\\[n\\,;])+", re.DOTALL)
SPECIAL = {b"\n": b"\\n", b"\\": b"\\\\", b",": b"\\,", b";": b"\\;"}


class Fault(Exception):
    pass


def need(right, kind):
    if not right:
        raise Fault(kind)


def meant(value):
    need(NAME.fullmatch(value), 3)
    back = {told_as: byte for byte, told_as in SPECIAL.items()}
    name_bytes = re.sub(rb"\\.", lambda found: back[found[0]], value)
    need(len(name_bytes) <= 40, 3)
    return name_bytes


def moment(value):
    need(re.fullmatch(rb"20\d\d-\d\d-\d\d \d\d:\d\d", value), 3)
    try:
        return datetime.datetime.strptime(value.decode(), "%Y-%m-%d %H:%M")
    except ValueError:
        raise Fault(3)


def number(value, pattern):
    need(re.fullmatch(pattern, value), 3)
    return int(value)


def in_pieces(line):
    return line[:1] + re.sub(rb"(?s)(.{23})(?=.)", rb"\1\n ", line[1:])


class Model:
    def __init__(self):
        self.title = b""
        self.dates = []

    def read_outside(self, key, value):
        if key == b"title":
            need(not self.dates, 2)
            title = meant(value)
            need(not self.title, 4)
            self.title = title
            return None
        need(key == b"begin", 2)
        need(value == b"date", 3)
        need(len(self.dates) < 6, 4)
        self.dates.append({"rings": set(), "tags": [], "others": []})
        return self.dates[-1]

    def read_within(self, date, key, value):
        if key in (b"name", b"at", b"long"):
            found = (meant(value) if key == b"name" else moment(value) if key == b"at"
                     else number(value, rb"[1-9]\d{0,3}"))
            need(key not in date, 4)
            date[key] = found
        elif key == b"ring":
            found = number(value, rb"0|[1-9]\d{0,3}")
            need(found not in date["rings"] and len(date["rings"]) < 3, 4)
            date["rings"].add(found)
        elif key == b"tag":
            need(re.fullmatch(rb"[a-z]{1,8}(,[a-z]{1,8})*", value), 3)
            date["tags"] += value.split(b",")
            need(len(set(date["tags"])) == len(date["tags"]) <= 5, 4)
        elif key == b"end":
            need(value == b"date", 3)
            need(b"at" in date, 5)
            return None
        else:
            need(key not in (b"begin", b"title"), 2)
            need(re.fullmatch(rb"x-.+", key), 6)
            need(len(date["others"]) < 3, 4)
            date["others"].append((key, value))
        return date

    def read(self, text):
        text = text.replace(b"\n ", b"")
        lines = text.split(b"\n")
        rest = lines.pop()
        date = None
        for place, line in enumerate(lines + [rest] * bool(rest)):
            try:
                found = re.fullmatch(rb"([a-z-]{1,16}):(.*)", line, re.DOTALL)
                need(found, 1)
                date = self.read_within(date, *found.groups()) if date else self.read_outside(*found.groups())
                need(place < len(lines), 1)
            except Fault as wrong:
                return -100 - 10 * place - wrong.args[0]
        return -105 - 10 * len(lines) if date else len(self.dates)

    def lines(self):
        if self.title:
            yield b"title:" + b"".join(SPECIAL.get(bytes([byte]), bytes([byte])) for byte in self.title)
        for date in self.dates:
            yield b"begin:date"
            if date.get(b"name"):
                yield b"name:" + b"".join(SPECIAL.get(bytes([byte]), bytes([byte])) for byte in date[b"name"])
            yield b"at:" + date[b"at"].strftime("%Y-%m-%d %H:%M").encode()
            if date.get(b"long"):
                yield b"long:%d" % date[b"long"]
            for ahead in sorted(date["rings"]):
                yield b"ring:%d" % ahead
            if date["tags"]:
                yield b"tag:" + b",".join(date["tags"])
            for other_line in date["others"]:
                yield b":".join(other_line)
            yield b"end:date"

    def told(self):
        return b"".join(in_pieces(line) + b"\n" for line in self.lines())

    def add(self, year, month, day, minute):
        try:
            at = datetime.datetime(year, month, day, *divmod(minute, 60))
        except (ValueError, OverflowError):
            return -1
        if not 2000 <= year <= 2099:
            return -1
        if len(self.dates) == 6:
            return -5
        self.dates.append({b"at": at, "rings": set(), "tags": [], "others": []})
        return len(self.dates) - 1

    def name(self, date, given):
        if not re.fullmatch(rb"(?s)[^\x00-\x09\x0b-\x1f\x7f]{0,40}", given):
            return -1
        had = len(date.get(b"name", b""))
        date[b"name"] = given
        return had

    def long(self, date, length):
        if length > 9999:
            return -1
        had = date.get(b"long", 0)
        date[b"long"] = length
        return had

    def ring(self, date, ahead):
        if ahead > 9999:
            return -1
        if ahead not in date["rings"] and len(date["rings"]) == 3:
            return -5
        date["rings"] ^= {ahead}
        return int(ahead in date["rings"])

    def tag(self, date, given):
        if not re.fullmatch(rb"[a-z]{1,8}", given):
            return -1
        if given in date["tags"]:
            date["tags"].remove(given)
            return 0
        if len(date["tags"]) == 5:
            return -5
        date["tags"].append(given)
        return 1

    def other(self, date, known_as, value):
        if not re.fullmatch(rb"x-[a-z-]{1,14}", known_as) or not re.fullmatch(rb"[^\n]{0,60}", value):
            return -1
        if len(date["others"]) == 3:
            return -5
        date["others"].append((known_as, value))
        return len(date["others"])


WITH_A_DATE = ("name", "long", "ring", "tag", "other", "drop", "date")


def with_count(numbers):
    return [len(numbers)] + list(numbers)


class Run:
    """One list of calls, given one by one as a word and what is handed over."""

    def __init__(self):
        self.model = Model()

    def answer(self, word, *given):
        if word in WITH_A_DATE:
            if given[0] >= len(self.model.dates):
                return [-3]
            if word not in ("drop", "date"):
                return [getattr(self.model, word)(self.model.dates[given[0]], *given[1:])]
        answered = getattr(self, word)(*given)
        return answered if isinstance(answered, list) else [answered]

    def load(self, text):
        fresh = Model()
        answered = fresh.read(text)
        self.model = fresh if answered >= 0 else self.model
        return answered

    def same(self, text):
        fresh = Model()
        answered = fresh.read(text)
        # Told, each calendar has one text alone.
        return int(list(fresh.lines()) == list(self.model.lines())) if answered >= 0 else answered

    def told(self):
        return with_count(self.model.told())

    def add(self, *given):
        return self.model.add(*given)

    def drop(self, which):
        self.model.dates = [one for place, one in enumerate(self.model.dates) if place != which]
        return len(self.model.dates)

    def date(self, which):
        one = self.model.dates[which]
        at = one[b"at"]
        flat = [(at.date() - FIRST_DAY).days, at.hour * 60 + at.minute, one.get(b"long", 0)]
        flat += with_count(one.get(b"name", b"")) + with_count(sorted(one["rings"]))
        flat += sum(map(with_count, one["tags"]), [len(one["tags"])])
        return flat + sum((with_count(part) for pair in one["others"] for part in pair), [len(one["others"])])

    def find(self, given):
        return with_count([place for place, one in enumerate(self.model.dates) if given in one["tags"]])

    def cut(self, given):
        return -1 if b"\n" in given else with_count(in_pieces(given))

    def join(self, given):
        return with_count(given.replace(b"\n ", b""))

    def title(self, given):
        whole = {b"name": self.model.title}
        answered = self.model.name(whole, given)
        self.model.title = whole[b"name"]
        return answered


def expected(calls):
    run = Run()
    return [run.answer(*call) for call in calls]


LAID = {"load": load, "told": told, "add": add, "name": name, "long": long, "ring": ring, "tag": tag, "other": other,
        "drop": drop, "date": date, "find": find, "same": same, "cut": cut, "join": join, "title": title}


def laid(calls):
    return [LAID[word](*[row(part) if isinstance(part, bytes) else part for part in given]) for word, *given in calls]


class MadeUp:
    """Calls and texts that are right mostly, and wrong in small ways often enough."""

    def __init__(self, seed):
        self.random = random.Random(seed)
        # Each list has one call that comes often, so that dates come to be full of what it adds.
        self.favourite = self.random.choice(("add", "ring", "tag", "other", "same", "load", "drop"))

    def some_bytes(self, most):
        signs = self.random.choice((b"ab", b"a,;\\n \n", b"xyz-:", bytes(range(32, 127)), bytes(range(256))))
        return bytes(self.random.choices(signs, k=self.random.choice((0, 1, 2, 3, self.random.randint(0, most), most))))

    def time(self):
        pick = self.random.choice
        year, month, day = pick((2000, 2024, 2026, 2099, 2100)), pick((1, 2, 11, 12, 13)), pick((0, 1, 28, 29, 30, 31))
        return b"%d-%02d-%02d %02d:%02d" % (year, month, day, pick((0, 9, 23, 24)), pick((0, 9, 59, 60)))

    def right_time(self):
        return (FIRST_DAY + datetime.timedelta(days=self.random.randrange(36525))).isoformat().encode() + b" 09:30"

    def tags(self):
        return b",".join(self.random.choice((b"a", b"b", b"c", b"home", b"abcdefgh", b"")) for _ in range(
            self.random.choice((1, 1, 1, 2, 3, 6))))

    def line(self):
        pick = self.random.choice
        told_name = b"".join(SPECIAL.get(bytes([byte]), bytes([byte])) for byte in self.some_bytes(41))
        return pick((
            b"name:" + told_name, b"name:tea", b"name:" + self.some_bytes(40), b"at:" + self.time(), b"at:" + self.right_time(),
            b"long:" + pick((b"0", b"5", b"9999", b"10000", b"05")), b"ring:" + pick((b"0", b"5", b"60", b"9999", b"05")),
            b"ring:%d" % self.random.randint(0, 9999), b"tag:" + self.tags(), b"tag:" + pick((b"d", b"e", b"f,g")),
            b"x-a:" + self.some_bytes(70), b"x-bc:1", b"x-:", b"foo:1", b"begin:date", b"end:date", b"title:" + told_name,
            self.some_bytes(20)))

    def likely_line(self):
        return self.random.choice((
            b"name:t\\;ea", b"long:45", b"ring:%d" % self.random.randint(0, 12), b"tag:" + self.random.choice((b"a", b"b,c")),
            b"x-place:kitchen, upstairs, at the table"))

    def text(self):
        pick = self.random.choice
        lines = [b"title:At home"] * pick((0, 1))
        for _ in range(pick((0, 1, 1, 2, 2, 3, 6, 7))):
            within = [b"at:" + self.right_time()] + [self.likely_line() for _ in range(pick((0, 1, 2, 4, 7)))]
            self.random.shuffle(within)
            lines += [b"begin:date"] + within + [b"end:date"]
        for _ in range(pick((0, 0, 1, 1, 2))):
            lines.insert(self.random.randint(0, len(lines)), self.line())
        if lines and pick((True, False, False, False)):
            lines.pop(self.random.randrange(len(lines)))
        text = b"".join(line + b"\n" for line in lines)
        for _ in range(pick((0, 0, 1, 3))):
            place = self.random.randint(0, len(text))
            text = text[:place] + pick((b"\n ", b"\n ", b"\n \n ", b"\n\n  ", b"\n")) + text[place:]
        return text[:pick((700, 700, 700, self.random.randint(0, 700)))][:700]

    def text_like(self, model):
        """The model's own text, often cut otherwise or with its lines in another order, now and then changed."""
        pick = self.random.choice
        lines = list(model.lines())
        for _ in range(pick((0, 1, 3))):
            place = self.random.randint(0, max(0, len(lines) - 2))
            if all(line.split(b":")[0] not in (b"begin", b"end", b"title") for line in lines[place:place + 2]):
                lines[place:place + 2] = reversed(lines[place:place + 2])
        if pick((True, False, False, False)):
            lines.insert(self.random.randint(0, len(lines)), pick((self.line(), self.likely_line())))
        if lines and pick((True, False, False, False, False)):
            lines.pop(self.random.randrange(len(lines)))
        text = b"".join(line + b"\n" for line in lines) if pick((True, False)) else model.told()
        for _ in range(pick((0, 0, 1, 3))):
            place = self.random.randint(0, len(text))
            text = text[:place] + b"\n " + text[place:]
        return text[:700]

    def call(self, model):
        pick = self.random.choice
        which = pick((0, 0, 0, 0, 0, len(model.dates) // 2, len(model.dates) - 1, len(model.dates), 6, 20)) % 21
        word = pick(("told", "add", "add", "add", "name", "long", "ring", "ring", "tag", "tag", "tag", "other", "other",
                     "date", "find", "same", "same", "cut", "join", "title", pick(("load", "drop", "add", "tag")))
                    + (self.favourite,) * 8)
        if word in ("load", "same"):
            return word, self.text_like(model) if pick((True, True, False)) else self.text()
        given = {
            "told": (),
            "add": pick(((2026, 11, 16, 570), (2000, 2, 29, 0), (2000, 1, 1, 1439), (
                pick((1999, 2000, 2026, 2024, 2099, 2100)), pick((0, 1, 2, 12, 13)), pick((0, 1, 28, 29, 30, 31, 32)),
                pick((0, 570, 1439, 1440))))),
            "name": (which, self.some_bytes(41)),
            "long": (which, pick((0, 1, 9999, 10000))),
            "ring": (which, pick((0, 1, 2, 3, 4, 5, 6, 7, 9999, 10000))),
            "tag": (which, pick((b"a", b"b", b"c", b"d", b"e", b"f", b"g", b"h", b"i", b"j", b"aa", b"ab", b"abcdefgh",
                                 b"", b"abcdefghi", b"A"))),
            "other": (which, pick((b"x-a", b"x-bc", b"x-", b"x-" + b"b" * 14, b"x-" + b"b" * 15, b"y-a")),
                      pick((b"", b"1", self.some_bytes(61)))),
            "drop": (which,),
            "date": (which,),
            "find": (pick((b"a", b"b", b"c", b"", b"A", b"abcdefgh")),),
            "cut": (self.some_bytes(pick((24, 25, 47, 48, 70, 71, 700))),),
            "join": (pick((self.some_bytes(700), bytes(self.random.choices(b"\n\n  a", k=self.random.randint(0, 40))))),),
            "title": (self.some_bytes(41),),
        }
        return (word,) + given[word]

    def calls(self, many):
        run = Run()
        made = []
        for _ in range(many):
            made.append(self.call(run.model))
            run.answer(*made[-1])
        return made


class AgainstModel(unittest.TestCase):
    def check(self, calls):
        self.assertEqual(ask(*laid(calls)), expected(calls), calls)

    def test_calls(self):
        for seed in range(600):
            self.check(MadeUp(seed).calls(60))

    def test_a_few_calls(self):
        for seed in range(600):
            self.check(MadeUp(seed).calls(1 + seed % 12))

    def test_texts(self):
        for seed in range(1500):
            made_up = MadeUp(seed)
            text, another = made_up.text(), made_up.text()
            self.check([("load", text), ("told",), ("same", another), ("load", another), ("told",), ("same", text)])

    def test_made_up_texts_have_each_answer(self):
        seen = {}
        for seed in range(1500):
            answered = expected([("load", MadeUp(seed).text())])[0][0]
            kind = answered if answered >= 0 else -((-answered - 100) % 10)
            seen[kind] = seen.get(kind, 0) + 1
        for kind in (-6, -5, -4, -3, -2, -1, 0, 1, 2, 3):
            self.assertGreater(seen.get(kind, 0), 10, (kind, seen))

    def test_made_up_calls_have_each_answer(self):
        seen = {}
        for seed in range(600):
            calls = MadeUp(seed).calls(60)
            for call, answered in zip(calls, expected(calls)):
                kind = min(max(answered[0], -100), 1)
                seen[call[0], kind] = seen.get((call[0], kind), 0) + 1
        for word, refusals in (("load", (-100,)), ("told", ()), ("add", (-1, -5)), ("name", (-3, -1)), ("long", (-3, -1)),
                               ("ring", (-3, -1, -5)), ("tag", (-3, -1, -5)), ("other", (-3, -1, -5)), ("drop", (-3,)),
                               ("date", (-3,)), ("find", ()), ("same", (-100,)), ("cut", (-1,)), ("join", ()),
                               ("title", (-1,))):
            for kind in refusals + (0, 1):
                if (word, kind) != ("other", 0):
                    self.assertGreater(seen.get((word, kind), 0), 10, (word, kind))

    def test_what_is_handed_in_stays_and_a_second_time_answers_as_the_first(self):
        for seed in range(100):
            calls = sum(laid(MadeUp(seed).calls(60)), [])
            before = list(calls)
            first = answers(calls)
            self.assertEqual(calls, before)
            self.assertEqual(answers(calls), first)

    def test_a_refusal_changes_nothing(self):
        for seed in range(100):
            calls = MadeUp(seed).calls(60)
            parts = ask(*laid(calls))
            kept = [(call, part) for call, part in zip(calls, parts) if part[0] >= 0]
            self.assertEqual(ask(*laid([call for call, part in kept])), [part for call, part in kept])

    def test_what_is_told_is_read_again(self):
        for seed in range(600):
            calls = laid(MadeUp(seed).calls(40))
            text = ask(*calls, told())[-1][1:]
            if len(text) <= 700:
                self.assertEqual(ask(load(text), told())[1][1:], text)
                self.assertEqual(ask(*calls, same(text))[-1], [1])


if __name__ == "__main__":
    unittest.main()

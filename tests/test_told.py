"""Promise 2: how a calendar is told."""

import unittest

from tests.helper import FULL_TEXT, CalendarCase, add, ask, date_text, joined, last, load, long, name, other, ring, tag
from tests.helper import text_after, told

AT = "at:2026-11-16 09:30\n"


class Order(CalendarCase):
    def test_nothing(self):
        self.assertEqual(last(told()), [0])

    def test_a_title_alone(self):
        self.assertEqual(text_after(load("title:At home\n")), "title:At home\n")

    def test_a_date_with_nothing_else(self):
        self.assertEqual(text_after(add()), "begin:date\n" + AT + "end:date\n")

    def test_each_line_alone(self):
        for call, line, is_ahead in ((name(0, "a"), "name:a\n", True), (long(0, 1), "long:1\n", False),
                                     (ring(0, 0), "ring:0\n", False), (tag(0, "a"), "tag:a\n", False),
                                     (other(0, "x-a", ""), "x-a:\n", False)):
            with self.subTest(line=line):
                self.assertEqual(text_after(add(), call),
                                 "begin:date\n" + (line + AT if is_ahead else AT + line) + "end:date\n")

    def test_all_lines_in_their_order_whatever_the_calls_order(self):
        self.assertEqual(
            text_after(add(), other(0, "x-b", "1"), tag(0, "z"), ring(0, 20), ring(0, 3), long(0, 45), name(0, "N"),
                       other(0, "x-a", "2"), tag(0, "a"), ring(0, 100)),
            "begin:date\nname:N\n" + AT + "long:45\nring:3\nring:20\nring:100\ntag:z,a\nx-b:1\nx-a:2\nend:date\n")

    def test_telling_changes_nothing(self):
        parts = ask(load(FULL_TEXT), told(), told())
        self.assertEqual(parts[1], parts[2])


class Cutting(CalendarCase):
    PIECES = {
        0: [0], 1: [1], 23: [23], 24: [24], 25: [24, 1], 26: [24, 2], 46: [24, 22], 47: [24, 23], 48: [24, 23, 1],
        49: [24, 23, 2], 64: [24, 23, 17],
    }

    def cut(self, line, sizes):
        pieces = []
        for size in sizes:
            pieces.append(line[:size])
            line = line[size:]
        return "\n ".join(pieces) + "\n"

    def test_lines_of_others(self):
        for size, sizes in self.PIECES.items():
            if size < 4:
                continue
            value = "abcdefghijklmnopqrstuvwxyz0123456789ABCDEFGHIJKLMNOPQRSTUVWXYZ"[:size - 4]
            with self.subTest(size=size):
                self.assertEqual(text_after(add(), other(0, "x-a", value)),
                                 "begin:date\n" + AT + self.cut("x-a:" + value, sizes) + "end:date\n")

    def test_longer_lines_of_others(self):
        for size, sizes in ((70, [24, 23, 23]), (71, [24, 23, 23, 1]), (93, [24, 23, 23, 23]),
                            (94, [24, 23, 23, 23, 1]), (600, [24] + [23] * 25 + [1])):
            line = "x-a:" + ("0123456789" * 60)[:size - 4]
            with self.subTest(size=size):
                self.assertEqual(text_after(load(date_text(line))),
                                 "begin:date\n" + AT + self.cut(line, sizes) + "end:date\n")

    def test_lines_of_names(self):
        for size, sizes in ((24, [24]), (25, [24, 1]), (45, [24, 21])):
            line = "name:" + "abcdefghijklmnopqrstuvwxyzabcdefghijklmn"[:size - 5]
            with self.subTest(size=size):
                self.assertEqual(text_after(add(), name(0, line[5:])),
                                 "begin:date\n" + self.cut(line, sizes) + AT + "end:date\n")

    def test_lines_of_titles(self):
        for size, sizes in ((24, [24]), (25, [24, 1]), (46, [24, 22])):
            line = "title:" + "abcdefghijklmnopqrstuvwxyzabcdefghijklmn"[:size - 6]
            with self.subTest(size=size):
                self.assertEqual(text_after(load(line + "\n")), self.cut(line, sizes))

    def test_lines_of_tags(self):
        tags = ["abcdefgh", "abcdefgi", "abcdefgj", "abcdefgk", "abcdefgl"]
        self.assertEqual(text_after(add(), *[tag(0, given) for given in tags]),
                         "begin:date\n" + AT + self.cut("tag:" + ",".join(tags), [24, 23, 1]) + "end:date\n")
        self.assertEqual(text_after(add(), *[tag(0, given) for given in tags[:4]], tag(0, "abcdefg")),
                         "begin:date\n" + AT + self.cut("tag:" + ",".join(tags[:4]) + ",abcdefg", [24, 23]) + "end:date\n")

    def test_names_are_cut_as_they_are_told(self):
        line = "name:" + "\\," * 40
        self.assertEqual(text_after(add(), name(0, "," * 40)),
                         "begin:date\n" + self.cut(line, [24, 23, 23, 15]) + AT + "end:date\n")
        self.assertEqual(text_after(add(), name(0, "ab" + "\n" * 9)), "begin:date\nname:ab" + "\\n" * 8 + "\\\n n\n" + AT
                         + "end:date\n")

    def test_blanks_where_a_line_is_cut(self):
        self.assertEqual(text_after(add(), other(0, "x-a", " " * 60)),
                         "begin:date\n" + AT + self.cut("x-a:" + " " * 60, [24, 23, 17]) + "end:date\n")


class ToldOtherwise(CalendarCase):
    def test_each_byte_of_a_name(self):
        otherwise = {10: "\\n", 92: "\\\\", 44: "\\,", 59: "\\;"}
        for byte in [10] + list(range(32, 127)) + list(range(128, 256)):
            sign = otherwise.get(byte, bytes([byte]).decode("latin-1"))
            with self.subTest(byte=byte):
                self.assertEqual(text_after(add(), name(0, [byte])), f"begin:date\nname:{sign}\n{AT}end:date\n")

    def test_several_beside_one_another(self):
        self.assertEqual(text_after(add(), name(0, "\\n\n\\,;")), "begin:date\nname:\\\\n\\n\\\\\\,\\;\n" + AT + "end:date\n")

    def test_others_are_told_as_they_are(self):
        self.assertEqual(text_after(add(), other(0, "x-a", "\\n\\,;,\\")), "begin:date\n" + AT + "x-a:\\n\\,;,\\\nend:date\n")


class ReadAgain(CalendarCase):
    def check_read_again(self, *calls):
        text = text_after(*calls)
        self.assertLessEqual(len(text), 700)
        self.assertEqual(last(*calls, load(text)), [joined(text).count("begin:date\n")])
        self.assertEqual(text_after(load(text)), text)
        self.assertEqual(text_after(load(joined(text))), text)

    def test_names_of_all_bytes(self):
        every = [10] + list(range(32, 127)) + list(range(128, 256))
        for start in range(0, len(every), 40):
            self.check_read_again(add(), name(0, every[start:start + 40]))

    def test_names_of_what_is_told_otherwise(self):
        for given in ("\n" * 40, "\\" * 40, "," * 40, ";" * 40, "\\n" * 20, "\n " * 20, " \n" * 20, " " * 40, "\\\n,;" * 10):
            for size in (1, 2, 19, 20, 21, 39, 40):
                self.check_read_again(add(), name(0, given[:size]))

    def test_values_of_others(self):
        for value in ("", " ", " " * 60, "\\", ":", "x" * 20, "x" * 21, "x" * 20 + " y", "x" * 19 + "  y", "\r\t\x00\xff"):
            self.check_read_again(add(), other(0, "x-a", value), other(0, "x-" + "b" * 14, value))

    def test_much_at_once(self):
        self.check_read_again(load(FULL_TEXT))
        self.check_read_again(add(2000, 1, 1, 0), add(2099, 12, 31, 1439), add(2024, 2, 29, 720), name(1, "a;b"),
                              long(2, 9999), ring(0, 9999), ring(0, 0), tag(2, "abcdefgh"), tag(2, "a"), add(), add(), add())


if __name__ == "__main__":
    unittest.main()

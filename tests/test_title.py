"""Promise 15: the calendar's name."""

import unittest

from tests.helper import (EDGE_BYTES_THAT_MAY_NOT, EDGE_BYTES_THAT_MAY_STAND, FULL_TEXT, CalendarCase, add, ask, date,
                          date_text, drop, joined, last, load, name, same, text_after, title)

OTHERWISE = {10: "\\n", 92: "\\\\", 44: "\\,", 59: "\\;"}


class Title(CalendarCase):
    def test_it_answers_how_many_bytes_the_name_had(self):
        self.assertEqual(ask(title("Home"), title(",;\n\\."), title(""), title("a"), title("b")),
                         [[0], [4], [5], [0], [1]])
        self.assertEqual(last(load(FULL_TEXT), title("a")), [7])
        self.assertEqual(last(load("title:a\\n\\,\n"), title("")), [3])
        self.assertEqual(last(load(date_text()), title("a")), [0])

    def test_that_is_its_name(self):
        self.assertEqual(text_after(title("Home")), "title:Home\n")
        self.assertEqual(text_after(title("Home"), title("Work")), "title:Work\n")
        self.assertEqual(text_after(load(FULL_TEXT), title("b")), FULL_TEXT.replace("At home", "b"))
        self.assertEqual(text_after(add(), title("b")), "title:b\n" + date_text())

    def test_without_bytes_it_has_none(self):
        self.assertEqual(text_after(title("Home"), title("")), "")
        self.assertEqual(text_after(load(FULL_TEXT), title("")), FULL_TEXT.replace("title:At home\n", ""))
        self.assertEqual(ask(title("")), [[0]])

    def test_how_many_bytes(self):
        for size in (0, 1, 39, 40):
            self.assertEqual(ask(title("a" * size), title("")), [[0], [size]])
        self.assertEqual(joined(text_after(title("," * 40))), "title:" + "\\," * 40 + "\n")
        for size in (41, 42, 700):
            self.check_refused([load(FULL_TEXT)], title("a" * size), -1)
            self.check_refused([], title("a" * size), -1)

    def test_which_bytes(self):
        for byte in EDGE_BYTES_THAT_MAY_STAND:
            sign = OTHERWISE.get(byte, bytes([byte]).decode("latin-1"))
            with self.subTest(byte=byte):
                self.assertEqual(ask(title([97, byte]), title([byte]), title("")), [[0], [2], [1]])
                self.assertEqual(text_after(title([byte])), f"title:{sign}\n")
        for byte in EDGE_BYTES_THAT_MAY_NOT:
            for given in ([byte], [97, byte], [byte, 97], [97] * 39 + [byte]):
                with self.subTest(given=given):
                    self.check_refused([load(FULL_TEXT)], title(given), -1)
                    self.check_refused([], title(given), -1)

    def test_each_byte(self):
        for byte in range(256):
            right = byte == 10 or 32 <= byte <= 126 or byte >= 128
            self.assertEqual(last(title([byte])), [0] if right else [-1])

    def test_after_a_refusal_the_name_is_as_it_was(self):
        self.assertEqual(ask(title("abc"), title([0]), title("x" * 41), title("")), [[0], [-1], [-1], [3]])

    def test_same_after_it(self):
        text = FULL_TEXT.replace("At home", "a\\;b")
        self.assertEqual(ask(load(FULL_TEXT), title("a;b"), same(FULL_TEXT), same(text), title("At home"), same(FULL_TEXT))[1:],
                         [[7], [0], [1], [3], [1]])
        self.assertEqual(ask(title("a"), same("title:a\n"), title(""), same("title:a\n"), same(""))[1:],
                         [[1], [1], [0], [1]])

    def test_what_is_told_is_read_again(self):
        every = [10] + list(range(32, 127)) + list(range(128, 256))
        for start in range(0, len(every), 40):
            text = text_after(title(every[start:start + 40]))
            self.assertEqual(last(title(every[start:start + 40]), same(text)), [1])
            self.assertEqual(text_after(load(text)), text)

    def test_names_of_dates_are_others(self):
        self.assertEqual(ask(add(), name(0, "ab"), title("c"), name(0, "d"), title("e"))[1:], [[0], [0], [2], [1]])
        parts = ask(load(FULL_TEXT), date(0), title("b"), date(0))
        self.assertEqual(parts[1], parts[3])

    def test_it_stays_when_dates_go(self):
        self.assertEqual(text_after(title("a"), add(), drop(0)), "title:a\n")

    def test_load_gives_another(self):
        self.assertEqual(text_after(title("a"), load("")), "")
        self.assertEqual(text_after(title("a"), load("title:b\n")), "title:b\n")
        self.assertEqual(text_after(title("a"), load("foo")), "title:a\n")


if __name__ == "__main__":
    unittest.main()

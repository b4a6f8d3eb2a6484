import itertools
import random
import unittest

from meetbook.errors import MeetError, NoLine
from meetbook.lines import read, shown
from meetbook.story import after
from tests.helper import BEYOND, GREAT, check

LETTERS = "abcdefghijklmnopqrstuvwxyz"
HUGE = 10 ** 6000


class LinesCase(unittest.TestCase):
    def check_both(self, count, rows, lines):
        check(self, shown, (rows,), lines)
        check(self, read, (count, lines), rows)

    def check_refused(self, count, lines):
        ahead = list(lines)
        with self.subTest(count=count, lines=[line[:60] for line in lines]):
            with self.assertRaises(NoLine) as caught:
                read(count, lines)
            self.assertIs(type(caught.exception), NoLine)
            self.assertIsInstance(caught.exception, MeetError)
            self.assertEqual(lines, ahead)

    def check_line_refused(self, line):
        """By itself, and at each place among good ones."""
        good = ["b 0.1 1", "d 1.1 -2"]
        self.check_refused(3, [line])
        for place in range(3):
            self.check_refused(3, good[:place] + [line] + good[place:])


class ThereAndBack(LinesCase):
    def test_no_line(self):
        for count in (1, 2, 20):
            self.check_both(count, [], [])

    def test_one_line(self):
        self.check_both(1, [("oats", (0, 12), -5)], ["oats 0.12 -5"])
        self.check_both(2, [("a", (1, 1), 0)], ["a 1.1 0"])

    def test_several_lines(self):
        rows = [("oat", (2, 1), 3), ("oats", (0, 12), -5), ("oats", (1, 3), 10), ("rye", (0, 1), 0)]
        self.check_both(3, rows, ["oat 2.1 3", "oats 0.12 -5", "oats 1.3 10", "rye 0.1 0"])

    def test_by_the_numbers_not_by_their_figures(self):
        rows = [("a", (0, 9), 1), ("a", (0, 10), 1), ("a", (2, 1), 1), ("a", (9, 99), 1), ("a", (10, 2), 1)]
        self.check_both(11, rows, ["a 0.9 1", "a 0.10 1", "a 2.1 1", "a 9.99 1", "a 10.2 1"])
        self.check_refused(11, ["a 0.10 1", "a 0.9 1"])
        self.check_refused(11, ["a 10.2 1", "a 9.99 1"])

    def test_two_hundred_lines_and_beyond(self):
        for many in (200, 1000):
            rows = sorted(("oats" if place % 3 else "rye", (place % 20, place + 1), -place) for place in range(many))
            lines = [f"{name} {hand}.{number} {value}" for name, (hand, number), value in rows]
            self.check_both(20, rows, lines)

    def test_all_letters(self):
        rows = [(letter, (0, place + 1), place) for place, letter in enumerate(LETTERS)]
        self.check_both(1, rows, [f"{letter} 0.{place + 1} {place}" for place, letter in enumerate(LETTERS)])
        self.check_both(1, [(LETTERS * 9, (0, 1), 1)], [LETTERS * 9 + " 0.1 1"])

    def test_names_that_begin_alike(self):
        rows = [("oat", (0, 3), 1), ("oats", (0, 1), 1), ("oatsack", (0, 2), 1)]
        self.check_both(1, rows, ["oat 0.3 1", "oats 0.1 1", "oatsack 0.2 1"])

    def test_values(self):
        for value in list(range(-120, 121)) + [10 ** 99, -(10 ** 99), GREAT, -GREAT, BEYOND, -BEYOND]:
            self.check_both(1, [("a", (0, 1), value)], ["a 0.1 " + str(value)])

    def test_one_value_with_several_marks(self):
        self.check_both(2, [("a", (0, 1), 5), ("a", (1, 1), 5), ("b", (1, 2), 5)], ["a 0.1 5", "a 1.1 5", "b 1.2 5"])

    def test_values_need_not_be_in_order(self):
        self.check_both(1, [("a", (0, 1), 5), ("a", (0, 2), -7), ("a", (0, 3), 1)], ["a 0.1 5", "a 0.2 -7", "a 0.3 1"])

    def test_marks_of_many_figures(self):
        for number in (1, 9, 10, 100, GREAT, BEYOND):
            self.check_both(20, [("a", (19, number), 1)], ["a 19." + str(number) + " 1"])
        self.check_both(BEYOND + 1, [("a", (BEYOND, 1), 1)], ["a " + str(BEYOND) + ".1 1"])
        self.check_both(1, [("a", (0, GREAT), 1), ("a", (0, GREAT + 1), 1)], [f"a 0.{GREAT} 1", f"a 0.{GREAT + 1} 1"])

    def test_numbers_of_more_figures_than_python_itself_reads_or_writes(self):
        figures = "1" + "0" * 6000
        rows = [("a", (0, HUGE), HUGE), ("b", (0, 1), -HUGE)]
        self.check_both(1, rows, [f"a 0.{figures} {figures}", f"b 0.1 -{figures}"])

    def test_the_tables_of_a_story(self):
        deeds = [("put", 1, "rye", -3), ("put", 0, "oats", 4), ("meet", 0, 1), ("change", 0, "rye", 0)]
        deeds += [("put", 0, "oats", 6)]
        table = after(2, deeds)[0][0]
        self.check_both(2, table, ["oats 0.1 4", "oats 0.3 6", "rye 0.2 0"])

    def test_drawn_entries(self):
        chance = random.Random(7)
        for each in range(200):
            marks = chance.sample(list(itertools.product(range(12), range(1, 15))), chance.randrange(20))
            names = ["".join(chance.choices("abz", k=chance.randint(1, 3))) for mark in marks]
            rows = sorted((name, mark, chance.randint(-200, 200)) for name, mark in zip(names, marks))
            lines = shown(rows)
            self.assertEqual(lines, [f"{name} {hand}.{number} {value}" for name, (hand, number), value in rows])
            self.check_both(12, rows, lines)
            shuffled = chance.sample(lines, len(lines))
            if shuffled != lines:
                self.check_refused(12, shuffled)

    def test_the_arguments_bear_their_names(self):
        self.assertEqual(shown(rows=[("a", (0, 1), 5)]), ["a 0.1 5"])
        self.assertEqual(read(count=1, lines=["a 0.1 5"]), [("a", (0, 1), 5)])


class Refusals(LinesCase):
    def test_names(self):
        self.check_line_refused(" 0.1 5")
        self.check_line_refused("0.1 5")
        for sign in "AZM059-_.,!'`{@[/\n\t\r\x0b\x00\u00e9\u00df\u00aa\u0430\uff41\u0131":
            self.check_line_refused(sign + " 0.3 5")
            self.check_line_refused("oats" + sign + " 0.3 5")
            self.check_line_refused("c" + sign + "oats 0.3 5")

    def test_numbers(self):
        wrong = ["", "00", "01", "007", "+1", "+0", "-0", "--1", "-", "+", "-01", "-00", "1-", "- 1", "1 0", "1_0"]
        wrong += ["1.0", "1.", ".1", "1e3", "0x1", "1,0", "a", "1a", "nought", "1/2", "None"]
        wrong += ["0" * 5000, "1" * 5000 + "x"]
        wrong += ["\u0661", "\u00b2", "\uff11", "1\u0661", "\u22121", "\u00a01", "\u20071"]
        wrong += ["1\n", "1\t", "\n1", "\t1", "1\r", "1\x00"]
        for word in wrong:
            self.check_line_refused("c 0.3 " + word)
            self.check_line_refused("c 0." + word + " 5")
            self.check_line_refused("c " + word + ".3 5")

    def test_marks(self):
        wrong = ["0", "3", ".", "..", "0.", ".3", "0.3.", ".0.3", "0.3.1", "0..3", "0,3", "0:3", "(0,3)", "0-3", "03"]
        for word in wrong + ["0 .3", "0. 3", "0 3"]:
            self.check_line_refused("c " + word + " 5")

    def test_a_hand_that_is_none_of_so_many(self):
        for count in (1, 2, 3, 10, 20):
            self.assertEqual(read(count, [f"a {count - 1}.1 5"]), [("a", (count - 1, 1), 5)])
            for stray in (count, count + 1, count + 10, GREAT, BEYOND, -1, -count):
                self.check_refused(count, [f"a {stray}.1 5"])
        self.check_refused(3, ["a 1" + "0" * 6000 + ".1 5"])
        self.check_refused(2, ["a 0.1 5", "a 1.1 5", "a 2.1 5"])

    def test_a_number_of_a_deed_below_one(self):
        for number in (0, -1, -12, -GREAT):
            self.check_line_refused(f"c 0.{number} 5")
            self.check_line_refused(f"c 2.{number} 5")

    def test_a_word_too_many_or_too_few(self):
        for line in ("", " ", "  ", "c", "c 0.3", "0.3 5", "c 5", "c 0.3 5 6", "c c 0.3 5", "c 0.3 0.4 5", "c 0.3 5 c"):
            self.check_line_refused(line)

    def test_blanks(self):
        for line in (" c 0.3 5", "c 0.3 5 ", "c  0.3 5", "c 0.3  5", "  c 0.3 5", "c 0.3 5  "):
            self.check_line_refused(line)
        for sign in "\t\n\r\x0b\x0c\x1c\x85\u00a0\u2003\u2028\u3000":
            for line in ("c_0.3 5", "c 0.3_5", "_c 0.3 5", "c 0.3 5_", "c_0.3_5", "c _0.3 5", "c 0.3_ 5", "c 0_.3 5"):
                self.check_line_refused(line.replace("_", sign))

    def test_two_lines_in_one(self):
        self.check_line_refused("c 0.3 5\nc 0.4 5")
        self.check_line_refused("c 0.3 5 c 0.4 5")

    def test_lines_not_by_name_and_mark(self):
        self.check_refused(3, ["b 0.1 1", "a 0.2 1"])
        self.check_refused(3, ["a 0.2 1", "a 0.1 1"])
        self.check_refused(3, ["a 1.1 1", "a 0.2 1"])
        self.check_refused(3, ["oats 0.1 1", "oat 0.2 1"])
        lines = ["a 0.2 1", "a 0.10 1", "a 1.1 1", "aa 0.1 1", "b 0.3 1"]
        self.assertEqual(shown(read(2, lines)), lines)
        for order in itertools.permutations(lines):
            if list(order) != lines:
                self.check_refused(2, list(order))

    def test_a_line_twice(self):
        self.check_refused(3, ["a 0.1 1", "a 0.1 1"])
        self.check_refused(3, ["a 0.1 1", "b 0.2 1", "b 0.2 1", "c 0.3 1"])

    def test_a_mark_twice_under_one_name(self):
        self.check_refused(3, ["a 0.1 1", "a 0.1 2"])
        self.check_refused(3, ["a 0.1 2", "a 0.1 1"])

    def test_a_mark_twice_under_two_names(self):
        self.check_refused(3, ["a 0.1 1", "b 0.1 1"])
        self.check_refused(3, ["a 0.1 1", "b 0.1 2"])
        self.check_refused(3, ["a 0.2 1", "b 0.1 1", "c 1.1 1", "d 0.2 5"])
        lines = [f"{letter} 0.{place + 1} 1" for place, letter in enumerate(LETTERS)]
        self.assertEqual(len(read(1, lines)), 26)
        self.check_refused(1, lines[:-1] + ["z 0.1 1"])

    def test_one_wrong_line_among_two_hundred(self):
        good = [f"a 0.{number} 1" for number in range(1, 201)]
        self.assertEqual(len(read(1, good)), 200)
        for place in (0, 100, 199):
            self.check_refused(1, good[:place] + [f"a 0.{place + 1} 01"] + good[place + 1:])


class AllShortLines(LinesCase):
    def test_just_the_lines_that_some_entry_is_written_as_are_read(self):
        numbers = ["0", "1", "2", "10", "11", "12", "20", "-1", "-2"]
        words = {sign for many in range(4) for sign in map("".join, itertools.product("012-+ a", repeat=many))}
        for word in words:
            line = "a 0.1 " + word
            figures = word[1:] if word.startswith("-") else word
            if figures.isdigit() and str(int(word)) == word:
                self.assertEqual(read(1, [line]), [("a", (0, 1), int(word))])
            else:
                self.check_refused(1, [line])
        for hand, number in itertools.product(numbers, repeat=2):
            line = f"a {hand}.{number} 5"
            if 0 <= int(hand) < 12 and int(number) > 0:
                self.assertEqual(read(12, [line]), [("a", (int(hand), int(number)), 5)])
            else:
                self.check_refused(12, [line])


if __name__ == "__main__":
    unittest.main()

import copy
import unittest

from meetbook.hand import values_of

GREAT = 10 ** 100 - 1


class ValuesOf(unittest.TestCase):
    def check(self, rows, name, values):
        ahead = copy.deepcopy(rows)
        answer = values_of(rows, name)
        self.assertIs(type(answer), list)
        self.assertEqual(answer, values)
        self.assertEqual(rows, ahead)

    def test_no_entry(self):
        self.check([], "oats", [])
        self.check([], "", [])

    def test_none_with_that_name(self):
        self.check([("oats", (0, 1), 3), ("rye", (1, 1), 4)], "barley", [])

    def test_one_with_that_name(self):
        self.check([("oats", (0, 1), 3), ("rye", (1, 1), 4)], "rye", [4])

    def test_several_with_that_name_in_the_order_of_the_list(self):
        rows = [("oats", (0, 2), 9), ("rye", (0, 1), 7), ("oats", (1, 1), -2), ("oats", (2, 5), 9), ("oats", (3, 1), 0)]
        self.check(rows, "oats", [9, -2, 9, 0])

    def test_the_order_of_the_list_though_it_is_not_by_name_and_mark(self):
        rows = [("rye", (4, 9), 1), ("oats", (3, 1), 8), ("rye", (0, 2), 5), ("oats", (0, 1), 6), ("rye", (0, 1), 3)]
        self.check(rows, "rye", [1, 5, 3])
        self.check(rows, "oats", [8, 6])

    def test_alike_values_are_all_told(self):
        self.check([("oats", (0, 1), 5), ("oats", (0, 2), 5), ("oats", (1, 1), 5)], "oats", [5, 5, 5])

    def test_names_that_begin_or_end_alike(self):
        rows = [("oat", (0, 1), 1), ("oats", (0, 2), 2), ("boat", (0, 3), 3), ("oat", (0, 4), 4), ("Oat", (0, 5), 5)]
        self.check(rows, "oat", [1, 4])
        self.check(rows, "oats", [2])
        self.check(rows, "boat", [3])
        self.check(rows, "oa", [])

    def test_the_empty_text_is_a_name_like_another(self):
        rows = [("", (0, 1), 1), ("oats", (0, 2), 2), (" ", (0, 3), 3), ("", (1, 1), 4)]
        self.check(rows, "", [1, 4])
        self.check(rows, " ", [3])
        self.check([("oats", (0, 1), 1)], "", [])

    def test_names_of_any_signs(self):
        rows = [("a b", (0, 1), 1), ("a\nb", (0, 2), 2), ("\u00e9", (0, 3), 3), ("e\u0301", (0, 4), 4)]
        self.check(rows, "a\nb", [2])
        self.check(rows, "\u00e9", [3])

    def test_values_nought_below_nought_and_of_a_hundred_figures(self):
        values = [0, -1, GREAT, GREAT - 1, -GREAT, 10 ** 130]
        rows = [("oats", (0, place + 1), value) for place, value in enumerate(values)]
        self.check(rows, "oats", values)

    def test_as_many_rows_as_the_document_bounds_and_beyond(self):
        for many in (200, 1000):
            rows = [("oats" if place % 3 else "rye", (place % 20, place + 1), -place) for place in range(many)]
            self.check(rows, "rye", [-place for place in range(0, many, 3)])

    def test_the_answer_is_a_list_of_its_own(self):
        rows = [("oats", (0, 1), 3)]
        values_of(rows, "oats").append(4)
        self.check(rows, "oats", [3])

    def test_the_arguments_bear_their_names(self):
        self.assertEqual(values_of(rows=[("oats", (0, 1), 3)], name="oats"), [3])


if __name__ == "__main__":
    unittest.main()

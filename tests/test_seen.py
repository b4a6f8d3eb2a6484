import copy
import itertools
import unittest

from meetbook.seen import common, covers, has_seen, joined, newer

GREAT = 10 ** 100 - 1
BEYOND = 10 ** 130


def small_lists(count, most):
    return [list(numbers) for numbers in itertools.product(range(most + 1), repeat=count)]


def marks(seen):
    return {(hand, number) for hand, many in enumerate(seen) for number in range(1, many + 1)}


class SeenCase(unittest.TestCase):
    def check(self, function, handed_in, answer):
        ahead = copy.deepcopy(handed_in)
        got = function(*handed_in)
        self.assertIs(type(got), type(answer))
        self.assertEqual(got, answer)
        self.assertEqual(handed_in, ahead)

    def check_own_list(self, function, handed_in, lists):
        ahead = copy.deepcopy(handed_in)
        got = function(*handed_in)
        for each in lists:
            self.assertIsNot(got, each)
        got[0] = got[0] + 1
        got.append(0)
        self.assertEqual(handed_in, ahead)


class HasSeen(SeenCase):
    def check_round(self, seen, hand):
        self.check(has_seen, (seen, (hand, seen[hand] - 1)), True)
        self.check(has_seen, (seen, (hand, seen[hand])), True)
        self.check(has_seen, (seen, (hand, seen[hand] + 1)), False)

    def test_below_equal_and_one_above_for_each_hand(self):
        for seen in ([4], [4, 2], [3, 7, 1, 5], list(range(1, 21)), list(range(30, 0, -1))):
            for hand in range(len(seen)):
                with self.subTest(seen=seen, hand=hand):
                    self.check_round(seen, hand)

    def test_first_and_last_hand_are_not_mixed_up(self):
        self.check(has_seen, ([5, 1, 0], (0, 5)), True)
        self.check(has_seen, ([5, 1, 0], (2, 1)), False)
        self.check(has_seen, ([0, 1, 5], (0, 1)), False)
        self.check(has_seen, ([0, 1, 5], (2, 5)), True)

    def test_nought_is_always_seen(self):
        for seen in ([0], [0, 0, 0], [3, 0, 8], [GREAT, 0, 0]):
            for hand in range(len(seen)):
                self.check(has_seen, (seen, (hand, 0)), True)

    def test_of_nothing_seen_the_first_deed_is_not_seen(self):
        self.check(has_seen, ([0], (0, 1)), False)
        self.check(has_seen, ([9, 0, 9], (1, 1)), False)

    def test_numbers_of_a_hundred_figures_and_beyond(self):
        for number in (10 ** 99, GREAT - 1, GREAT, BEYOND):
            self.check_round([number], 0)
            self.check_round([0, number, 1], 1)

    def test_the_arguments_bear_their_names(self):
        self.assertIs(has_seen(seen=[1, 0], mark=(0, 1)), True)


class Covers(SeenCase):
    def test_one_hand(self):
        self.check(covers, ([3], [2]), True)
        self.check(covers, ([3], [3]), True)
        self.check(covers, ([3], [4]), False)
        self.check(covers, ([0], [0]), True)
        self.check(covers, ([0], [1]), False)

    def test_alike_lists_cover_one_another(self):
        for seen in ([0], [3, 0, 2], list(range(20)), [GREAT] * 20):
            self.check(covers, (seen, list(seen)), True)
            self.check(covers, (seen, seen), True)

    def test_ahead_in_some_places_and_behind_in_others(self):
        self.check(covers, ([5, 1], [1, 2]), False)
        self.check(covers, ([1, 2], [5, 1]), False)
        self.check(covers, ([9, 9, 0, 9], [0, 0, 1, 0]), False)

    def test_twenty_and_thirty_hands_one_place_behind(self):
        for count in (20, 30):
            for place in range(count):
                more = [7] * count
                more[place] = 8
                self.check(covers, (more, [7] * count), True)
                self.check(covers, ([7] * count, more), False)

    def test_noughts(self):
        self.check(covers, ([0, 0, 0], [0, 0, 0]), True)
        self.check(covers, ([0, 1, 0], [0, 0, 0]), True)
        self.check(covers, ([0, 0, 0], [0, 0, 1]), False)

    def test_numbers_of_a_hundred_figures_one_apart(self):
        self.check(covers, ([1, GREAT], [1, GREAT - 1]), True)
        self.check(covers, ([1, GREAT - 1], [1, GREAT]), False)
        self.check(covers, ([BEYOND], [BEYOND + 1]), False)

    def test_the_arguments_bear_their_names(self):
        self.assertIs(covers(other=[1, 0], one=[1, 1]), True)


class Joined(SeenCase):
    def test_one_hand(self):
        self.check(joined, ([3], [5]), [5])
        self.check(joined, ([5], [3]), [5])
        self.check(joined, ([0], [0]), [0])

    def test_several_hands_each_ahead_somewhere(self):
        self.check(joined, ([5, 1, 0, 4], [2, 3, 0, 4]), [5, 3, 0, 4])
        self.check(joined, ([2, 3, 0, 4], [5, 1, 0, 4]), [5, 3, 0, 4])

    def test_alike_lists(self):
        for seen in ([0], [3, 0, 2], list(range(20))):
            self.check(joined, (seen, list(seen)), list(seen))
            self.check(joined, (seen, seen), list(seen))

    def test_twenty_and_thirty_hands(self):
        for count in (20, 30):
            up = list(range(count))
            down = list(reversed(up))
            self.check(joined, (up, down), [max(place, count - 1 - place) for place in range(count)])

    def test_numbers_of_a_hundred_figures_one_apart(self):
        self.check(joined, ([GREAT, GREAT - 1, 0], [GREAT - 1, GREAT, BEYOND]), [GREAT, GREAT, BEYOND])

    def test_the_answer_is_a_list_of_its_own(self):
        for one, other in (([3, 4], [1, 2]), ([1, 2], [3, 4]), ([1, 2], [1, 2]), ([3, 1], [1, 3])):
            self.check_own_list(joined, (one, other), (one, other))
        same = [2, 2]
        self.check_own_list(joined, (same, same), (same,))

    def test_the_arguments_bear_their_names(self):
        self.assertEqual(joined(one=[1, 0], other=[0, 2]), [1, 2])


class Common(SeenCase):
    def test_one_row_alone(self):
        for row in ([0], [4], [3, 0, 2], [GREAT] * 20):
            self.check(common, ([row],), list(row))

    def test_two_rows(self):
        self.check(common, ([[5, 1, 0], [2, 3, 0]],), [2, 1, 0])
        self.check(common, ([[2], [5]],), [2])

    def test_rows_that_are_alike(self):
        self.check(common, ([[3, 0, 2]] * 4,), [3, 0, 2])
        self.check(common, ([[3, 0, 2], [3, 0, 2], [3, 0, 2]],), [3, 0, 2])

    def test_a_different_least_row_at_each_place(self):
        for count in (2, 3, 20, 30):
            rows = [[place + 1 if place == row else 100 + row for place in range(count)] for row in range(count)]
            self.check(common, (rows,), list(range(1, count + 1)))
            self.check(common, (rows[::-1],), list(range(1, count + 1)))

    def test_the_least_is_found_in_whichever_row_it_lies(self):
        for place in range(5):
            rows = [[9, 9] for row in range(5)]
            rows[place][1] = 0
            self.check(common, (rows,), [9, 0])

    def test_many_rows(self):
        for many in (200, 300):
            rows = [[row, many - 1 - row, 7] for row in range(many)]
            self.check(common, (rows,), [0, 0, 7])

    def test_numbers_of_a_hundred_figures_one_apart(self):
        self.check(common, ([[GREAT, GREAT - 1], [GREAT - 1, GREAT], [BEYOND, BEYOND]],), [GREAT - 1, GREAT - 1])

    def test_the_answer_is_a_list_of_its_own(self):
        for rows in ([[3, 4]], [[1, 2], [3, 4]], [[3, 4], [1, 2]], [[1, 2], [1, 2]], [[1, 3], [3, 1]]):
            self.check_own_list(common, (rows,), rows)

    def test_the_argument_bears_its_name(self):
        self.assertEqual(common(rows=[[1, 0], [0, 2]]), [0, 0])


class Newer(SeenCase):
    def test_one_hand(self):
        self.check(newer, ([3], [5]), 2)
        self.check(newer, ([5], [3]), 0)
        self.check(newer, ([3], [3]), 0)
        self.check(newer, ([0], [4]), 4)

    def test_where_the_one_is_ahead_nothing_is_taken_off(self):
        self.check(newer, ([9, 1], [0, 3]), 2)
        self.check(newer, ([0, 3], [9, 1]), 9)
        self.check(newer, ([1, 100, 2, 100], [4, 0, 6, 0]), 7)

    def test_alike_lists(self):
        for seen in ([0], [3, 0, 2], list(range(20)), [GREAT] * 20):
            self.check(newer, (seen, list(seen)), 0)
            self.check(newer, (seen, seen), 0)

    def test_twenty_and_thirty_hands(self):
        for count in (20, 30):
            self.check(newer, ([0] * count, list(range(count))), sum(range(count)))
            self.check(newer, (list(range(count)), [0] * count), 0)
            self.check(newer, ([7] * count, [8] * count), count)

    def test_numbers_of_a_hundred_figures(self):
        self.check(newer, ([GREAT - 1, GREAT], [GREAT, GREAT - 1]), 1)
        self.check(newer, ([0, 0], [GREAT, GREAT - 1]), 2 * GREAT - 1)
        self.check(newer, ([BEYOND], [BEYOND + 1]), 1)

    def test_the_arguments_bear_their_names(self):
        self.assertEqual(newer(other=[0, 3], one=[1, 1]), 2)


class AsSetsOfDeeds(SeenCase):
    """All short lists, held against the sets of the marks that they tell of."""

    def test_has_seen(self):
        for seen in small_lists(2, 3):
            for mark in itertools.product(range(2), range(1, 6)):
                self.check(has_seen, (seen, mark), mark in marks(seen))

    def test_pairs(self):
        for count, most in ((1, 4), (2, 3), (3, 2)):
            for one, other in itertools.product(small_lists(count, most), repeat=2):
                self.check(covers, (one, other), marks(other) <= marks(one))
                self.check(newer, (one, other), len(marks(other) - marks(one)))
                self.assertEqual(marks(joined(one, other)), marks(one) | marks(other))
                self.assertEqual(marks(common([one, other])), marks(one) & marks(other))

    def test_threes(self):
        for rows in itertools.product(small_lists(2, 2), repeat=3):
            expected = set.intersection(*[marks(row) for row in rows])
            self.assertEqual(marks(common(list(rows))), expected)


if __name__ == "__main__":
    unittest.main()

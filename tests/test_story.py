import itertools
import unittest

from meetbook.story import after, answers
from tests.helper import BEYOND, GREAT, check_after, check_answers


def strays(count):
    return [-1, count, count + 1, -count, -count - 1, 10 ** 99, GREAT, BEYOND, -GREAT, -BEYOND]


class EachDeed(unittest.TestCase):
    def test_put_answers_the_mark(self):
        check_answers(self, 1, [("put", 0, "oats", 5)], [(0, 1)])
        check_answers(self, 3, [("put", 2, "oats", 5)], [(2, 1)])

    def test_putting_takes_nothing_out(self):
        deeds = [("put", 0, "oats", 5), ("put", 0, "oats", 5), ("put", 0, "oats", 6)]
        check_answers(self, 1, deeds, [(0, 1), (0, 2), (0, 3)])
        entries = [("oats", (0, 1), 5), ("oats", (0, 2), 5), ("oats", (0, 3), 6)]
        check_after(self, 1, deeds, ([entries], [[3]], [[[3]]], [[]]))

    def test_change_where_there_is_none_puts_in(self):
        deeds = [("put", 0, "rye", 1), ("change", 0, "oats", 5)]
        check_answers(self, 2, deeds, [(0, 1), (0, 2)])
        entries = [("oats", (0, 2), 5), ("rye", (0, 1), 1)]
        check_after(self, 2, deeds, ([entries, []], [[2, 0], [0, 0]], [[[2, 0], [0, 0]], [[0, 0], [0, 0]]], [[], []]))

    def test_change_where_there_is_one(self):
        deeds = [("put", 0, "oats", 5), ("change", 0, "oats", 5)]
        check_answers(self, 2, deeds, [(0, 1), (0, 2)])
        tables, seen, knows, kept = after(2, deeds)
        self.assertEqual(tables, [[("oats", (0, 2), 5)], []])
        self.assertEqual(seen, [[2, 0], [0, 0]])
        self.assertEqual(kept, [[((0, 2), [(0, 1)])], []])

    def test_change_where_there_are_several(self):
        deeds = [("put", 0, "oats", 5), ("put", 0, "rye", 6), ("put", 1, "oats", 7), ("put", 0, "oats", 8)]
        deeds += [("meet", 1, 0), ("change", 1, "oats", -2), ("change", 1, "oats", -3)]
        check_answers(self, 3, deeds, [(0, 1), (0, 2), (1, 1), (0, 3), (3, 1), (1, 2), (1, 3)])
        tables, seen, knows, kept = after(3, deeds)
        self.assertEqual(tables[1], [("oats", (1, 3), -3), ("rye", (0, 2), 6)])
        self.assertEqual(kept, [[], [((1, 2), [(0, 1), (0, 3), (1, 1)]), ((1, 3), [(1, 2)])], []])

    def test_take_answers_the_marks_in_order(self):
        deeds = [("put", 1, "oats", 9), ("put", 2, "oats", 8), ("put", 0, "oats", 7), ("put", 2, "oats", 6)]
        deeds += [("tell", 0, 2), ("tell", 1, 2), ("take", 2, "oats")]
        check_answers(self, 3, deeds, [(1, 1), (2, 1), (0, 1), (2, 2), 1, 1, [(0, 1), (1, 1), (2, 1), (2, 2)]])

    def test_the_order_of_marks_goes_by_numbers_not_by_figures(self):
        deeds = [("put", 0, "oats", 1)] * 12
        marks = [(0, number) for number in range(1, 13)]
        check_answers(self, 2, deeds + [("take", 0, "oats")], marks + [marks])
        self.assertEqual(after(2, deeds + [("take", 0, "oats")])[3], [[((0, 13), marks)], []])
        many = [("put", hand, "oats", 1) for hand in range(12)] + [("tell", hand, 0) for hand in range(1, 12)]
        self.assertEqual(answers(12, many + [("take", 0, "oats")])[-1], [(hand, 1) for hand in range(12)])

    def test_take_of_one(self):
        deeds = [("put", 0, "oats", 5), ("take", 0, "oats")]
        check_answers(self, 2, deeds, [(0, 1), [(0, 1)]])
        check_after(self, 2, deeds, (
            [[], []], [[2, 0], [0, 0]], [[[2, 0], [0, 0]], [[0, 0], [0, 0]]], [[((0, 2), [(0, 1)])], []]
        ))

    def test_take_where_there_is_none_is_no_deed(self):
        check_answers(self, 1, [("take", 0, "oats")], [None])
        deeds = [("put", 0, "oats", 5), ("put", 1, "rye", 6)]
        for name in ("rye", "oat", "oatss", "", "OATS", "oats "):
            check_answers(self, 2, deeds + [("take", 0, name), ("put", 0, "x", 1)], [(0, 1), (1, 1), None, (0, 2)])
            self.assertEqual(after(2, deeds + [("take", 0, name)]), after(2, deeds))

    def test_take_of_what_is_taken_out_already_is_no_deed(self):
        deeds = [("put", 0, "oats", 5), ("take", 0, "oats"), ("take", 0, "oats"), ("put", 0, "oats", 5)]
        check_answers(self, 1, deeds, [(0, 1), [(0, 1)], None, (0, 3)])

    def test_tell_answers_how_many_deeds_more(self):
        deeds = [("put", 0, "oats", 5), ("put", 0, "oats", 6), ("put", 1, "rye", 7), ("tell", 0, 1), ("tell", 0, 1)]
        deeds += [("tell", 1, 2), ("tell", 2, 0), ("tell", 0, 2)]
        check_answers(self, 3, deeds, [(0, 1), (0, 2), (1, 1), 2, 0, 3, 1, 0])

    def test_tell_counts_deeds_that_left_no_entry(self):
        deeds = [("put", 0, "oats", 5), ("take", 0, "oats"), ("take", 0, "oats"), ("tell", 0, 1)]
        check_answers(self, 2, deeds, [(0, 1), [(0, 1)], None, 2])

    def test_meet_answers_a_pair_in_the_order_of_the_hands_named(self):
        deeds = [("put", 0, "oats", 5), ("put", 1, "rye", 6), ("put", 1, "rye", 7), ("put", 1, "rye", 8)]
        check_answers(self, 2, deeds + [("meet", 0, 1)], [(0, 1), (1, 1), (1, 2), (1, 3), (3, 1)])
        check_answers(self, 2, deeds + [("meet", 1, 0)], [(0, 1), (1, 1), (1, 2), (1, 3), (1, 3)])
        check_answers(self, 2, deeds + [("meet", 1, 0)] * 2, [(0, 1), (1, 1), (1, 2), (1, 3), (1, 3), (0, 0)])

    def test_with_nothing_to_tell(self):
        check_answers(self, 2, [("tell", 0, 1), ("meet", 0, 1), ("meet", 1, 0)], [0, (0, 0), (0, 0)])

    def test_marks_are_counted_for_each_hand_from_one_on(self):
        deeds = [("put", 0, "a", 1), ("put", 1, "a", 1), ("change", 1, "b", 1), ("put", 0, "b", 1), ("put", 2, "a", 1)]
        deeds += [("meet", 0, 1), ("put", 0, "c", 1), ("take", 1, "a"), ("put", 1, "c", 1), ("change", 0, "a", 1)]
        marks = [(0, 1), (1, 1), (1, 2), (0, 2), (2, 1), (2, 2), (0, 3), [(0, 1), (1, 1)], (1, 4), (0, 4)]
        check_answers(self, 3, deeds, marks)

    def test_no_deed_at_all(self):
        for count in (1, 2, 20, 30):
            check_answers(self, count, [], [])

    def test_the_arguments_bear_their_names(self):
        self.assertEqual(answers(count=1, deeds=[("put", 0, "oats", 5)]), [(0, 1)])
        self.assertEqual(after(count=1, deeds=[]), ([[]], [[0]], [[[0]]], [[]]))


class HandsThatThereAreNot(unittest.TestCase):
    AHEAD = [
        ("put", 0, "oats", 5), ("put", 1, "oats", 6), ("put", 2, "rye", 7), ("meet", 0, 1), ("take", 1, "oats"),
        ("tell", 1, 2), ("change", 0, "oats", 8),
    ]
    BEHIND = [
        ("put", 0, "a", 1), ("put", 1, "a", 1), ("take", 2, "rye"), ("meet", 2, 0), ("tell", 0, 1), ("take", 1, "oats"),
    ]

    def check_nothing_done(self, count, deed, words):
        ahead = [each for each in self.AHEAD if self.fits(each, count)]
        behind = [each for each in self.BEHIND if self.fits(each, count)]
        given = answers(count, ahead + behind)
        story = ahead + [deed, deed] + behind
        check_answers(self, count, story, given[:len(ahead)] + [words, words] + given[len(ahead):])
        check_after(self, count, ahead + [deed], after(count, ahead))
        check_after(self, count, story, after(count, ahead + behind))

    def fits(self, deed, count):
        hands = deed[1:3] if deed[0] in ("tell", "meet") else deed[1:2]
        return all(hand < count for hand in hands)

    def test_in_each_place_of_each_deed(self):
        for count in (1, 2, 3, 20):
            for stray in strays(count):
                with self.subTest(count=count, stray=stray):
                    self.check_nothing_done(count, ("put", stray, "oats", 1), "no hand")
                    self.check_nothing_done(count, ("change", stray, "oats", 1), "no hand")
                    self.check_nothing_done(count, ("take", stray, "oats"), "no hand")
                    self.check_nothing_done(count, ("take", stray, "nothing"), "no hand")
                    for kind in ("tell", "meet"):
                        self.check_nothing_done(count, (kind, stray, 0), "no hand")
                        self.check_nothing_done(count, (kind, 0, stray), "no hand")
                        self.check_nothing_done(count, (kind, count - 1, stray), "no hand")
                        self.check_nothing_done(count, (kind, stray, count - 1), "no hand")

    def test_in_both_places_alike_or_not(self):
        for count in (1, 3):
            for one, other in itertools.product(strays(count), repeat=2):
                for kind in ("tell", "meet"):
                    with self.subTest(count=count, one=one, other=other, kind=kind):
                        self.check_nothing_done(count, (kind, one, other), "no hand")

    def test_a_hand_that_tells_or_meets_itself(self):
        for count in (1, 2, 3, 20):
            for hand in range(count):
                for kind in ("tell", "meet"):
                    with self.subTest(count=count, hand=hand, kind=kind):
                        self.check_nothing_done(count, (kind, hand, hand), "same hand")

    def test_the_last_hand_there_is(self):
        for count in (1, 2, 20, 30):
            self.assertEqual(answers(count, [("put", count - 1, "oats", 1)]), [(count - 1, 1)])

    def test_only_numbers_of_hands_are_looked_at(self):
        # The value of an entry is no hand's number, though it stands where there could be one.
        check_answers(self, 1, [("put", 0, "0", -1), ("change", 0, "no hand", 7)], [(0, 1), (0, 2)])


class After(unittest.TestCase):
    def test_no_deed_at_all(self):
        for count in (1, 2, 20, 30):
            nought = [[0] * count for hand in range(count)]
            empty = [[] for hand in range(count)]
            check_after(self, count, [], (empty, nought, [nought for hand in range(count)], empty))

    def test_one_hand_alone(self):
        deeds = [("put", 0, "rye", 1), ("put", 0, "oats", 2), ("change", 0, "rye", 3), ("take", 0, "oats")]
        check_after(self, 1, deeds, ([[("rye", (0, 3), 3)]], [[4]], [[[4]]], [[]]))

    def test_three_hands(self):
        deeds = [("put", 0, "oats", 5), ("put", 1, "oats", 6), ("meet", 0, 1), ("take", 0, "oats")]
        deeds += [("put", 1, "rye", 7), ("tell", 0, 2)]
        check_after(self, 3, deeds, (
            [[], [("oats", (0, 1), 5), ("oats", (1, 1), 6), ("rye", (1, 2), 7)], []],
            [[2, 1, 0], [1, 2, 0], [2, 1, 0]],
            [
                [[2, 1, 0], [1, 1, 0], [0, 0, 0]],
                [[1, 1, 0], [1, 2, 0], [0, 0, 0]],
                [[2, 1, 0], [1, 1, 0], [2, 1, 0]],
            ],
            [[((0, 2), [(0, 1), (1, 1)])], [], [((0, 2), [(0, 1), (1, 1)])]],
        ))

    def test_twenty_hands(self):
        count = 20
        deeds = [("put", hand, "oats", hand) for hand in range(count)]
        deeds += [("tell", hand, hand + 1) for hand in range(count - 1)] + [("take", count - 1, "oats")]
        tables, seen, knows, kept = after(count, deeds)
        for hand in range(count - 1):
            self.assertEqual(tables[hand], [("oats", (each, 1), each) for each in range(hand + 1)])
            self.assertEqual(seen[hand], [1] * (hand + 1) + [0] * (count - hand - 1))
            self.assertEqual(kept[hand], [])
            told = [[1] * (each + 1) + [0] * (count - each - 1) for each in range(hand + 1)]
            self.assertEqual(knows[hand], told + [[0] * count] * (count - hand - 1))
        self.assertEqual(tables[-1], [])
        self.assertEqual(seen[-1], [1] * (count - 1) + [2])
        self.assertEqual(kept[-1], [((19, 2), [(each, 1) for each in range(count)])])

    def test_entries_are_by_name_and_mark(self):
        deeds = [("put", 1, "rye", 1), ("put", 1, "oats", 2), ("put", 0, "rye", 3), ("put", 0, "oats", 4)]
        deeds += [("put", 0, "barley", 5), ("meet", 1, 0)]
        entries = [
            ("barley", (0, 3), 5), ("oats", (0, 2), 4), ("oats", (1, 2), 2), ("rye", (0, 1), 3), ("rye", (1, 1), 1),
        ]
        self.assertEqual(after(2, deeds)[0], [entries, entries])

    def test_entries_by_mark_with_more_than_nine_deeds(self):
        deeds = [("put", 0, "oats", -number) for number in range(1, 13)]
        self.assertEqual(after(1, deeds)[0], [[("oats", (0, number), -number) for number in range(1, 13)]])
        deeds = [("put", hand, "oats", 0) for hand in range(11, -1, -1)]
        deeds += [("tell", hand, 0) for hand in range(11, 0, -1)]
        self.assertEqual(after(12, deeds)[0][0], [("oats", (hand, 1), 0) for hand in range(12)])

    def test_what_is_kept_by_the_marks_with_more_than_nine_deeds(self):
        deeds = [("change", 0, "oats", number) for number in range(12)]
        kept = [((0, number), [(0, number - 1)]) for number in range(2, 13)]
        self.assertEqual(after(2, deeds)[3], [kept, []])

    def test_what_is_kept_by_the_marks_whoever_told_first(self):
        deeds = [("put", 2, "oats", 1), ("take", 2, "oats"), ("put", 0, "rye", 1), ("take", 0, "rye"), ("tell", 2, 1)]
        kept = [((0, 2), [(0, 1)]), ((2, 2), [(2, 1)])]
        self.assertEqual(after(4, deeds + [("tell", 0, 1)])[3], [kept[:1], kept, kept[1:], []])

    def test_names_that_begin_alike(self):
        deeds = [("put", 0, "oats", 1), ("put", 0, "oat", 2), ("put", 0, "oatsack", 3), ("take", 0, "oats")]
        self.assertEqual(answers(1, deeds)[3], [(0, 1)])
        self.assertEqual(after(1, deeds)[0], [[("oat", (0, 2), 2), ("oatsack", (0, 3), 3)]])
        deeds += [("put", 0, "oats", 4), ("change", 0, "oat", 5)]
        entries = [("oat", (0, 6), 5), ("oats", (0, 5), 4), ("oatsack", (0, 3), 3)]
        self.assertEqual(after(1, deeds)[0], [entries])

    def test_the_empty_text_and_any_other_are_names(self):
        names = ["", " ", "no hand", "a.b 0.1", "Oats", "\n", "\u00e9", "e\u0301", "\U0001f33e", "put", "0"]
        deeds = [("put", 0, name, place) for place, name in enumerate(names)]
        entries = sorted((name, (0, place + 1), place) for place, name in enumerate(names))
        check_after(self, 1, deeds, ([entries], [[len(names)]], [[[len(names)]]], [[]]))
        for place, name in enumerate(names):
            rest = [entry for entry in entries if entry[0] != name]
            self.assertEqual(answers(1, deeds + [("take", 0, name)])[-1], [(0, place + 1)])
            self.assertEqual(after(1, deeds + [("take", 0, name)])[0], [rest])
            changed = sorted(rest + [(name, (0, len(names) + 1), -1)])
            self.assertEqual(after(1, deeds + [("change", 0, name, -1)])[0], [changed])

    def test_values_below_nought_nought_and_of_a_hundred_figures(self):
        values = [0, -1, GREAT, -GREAT, GREAT - 1, BEYOND, -BEYOND]
        for kind in ("put", "change"):
            deeds = [(kind, 0, f"n{place}", value) for place, value in enumerate(values)] + [("meet", 0, 1)]
            entries = [(f"n{place}", (0, place + 1), value) for place, value in enumerate(values)]
            tables = after(2, deeds)[0]
            self.assertEqual(tables, [entries, entries])
            self.assertTrue(all(type(entry[2]) is int for entry in tables[1]))

    def test_as_many_deeds_as_the_document_bounds_and_beyond(self):
        for many in (200, 500):
            deeds = [("put", place % 20, "oats", place) for place in range(many)]
            self.assertEqual(answers(20, deeds), [(place % 20, place // 20 + 1) for place in range(many)])
            self.assertEqual(after(20, deeds)[1][3], [0] * 3 + [many // 20] + [0] * 16)


class TakingOutApart(unittest.TestCase):
    def test_an_entry_taken_out_by_one_while_another_has_it(self):
        deeds = [("put", 0, "oats", 5), ("tell", 0, 1), ("take", 0, "oats")]
        self.assertEqual(after(2, deeds)[0], [[], [("oats", (0, 1), 5)]])
        self.assertEqual(after(2, deeds + [("tell", 0, 1)])[0], [[], []])
        self.assertEqual(after(2, deeds + [("tell", 1, 0)])[0], [[], [("oats", (0, 1), 5)]])
        self.assertEqual(after(2, deeds + [("meet", 1, 0)])[0], [[], []])

    def test_an_entry_handed_on_by_one_who_has_not_seen_it_taken_out(self):
        deeds = [("put", 0, "oats", 5), ("tell", 0, 1), ("take", 0, "oats"), ("tell", 1, 2)]
        oats = [("oats", (0, 1), 5)]
        self.assertEqual(after(3, deeds)[0], [[], oats, oats])
        self.assertEqual(after(3, deeds + [("meet", 2, 0)])[0], [[], oats, []])
        self.assertEqual(after(3, deeds + [("tell", 0, 1), ("tell", 1, 2)])[0], [[], [], []])
        self.assertEqual(after(3, deeds + [("tell", 0, 2), ("tell", 1, 2)])[0], [[], oats, []])

    def test_an_entry_that_the_taker_has_not_seen_stays(self):
        deeds = [("put", 0, "oats", 5), ("tell", 0, 1), ("put", 0, "oats", 6), ("put", 2, "oats", 7)]
        deeds += [("take", 1, "oats")]
        check_answers(self, 3, deeds, [(0, 1), 1, (0, 2), (2, 1), [(0, 1)]])
        deeds += [("meet", 1, 0), ("meet", 1, 2)]
        stays = [("oats", (0, 2), 6)]
        self.assertEqual(after(3, deeds)[0], [stays, stays + [("oats", (2, 1), 7)], stays + [("oats", (2, 1), 7)]])

    def test_taken_out_by_both_apart(self):
        deeds = [("put", 0, "oats", 5), ("meet", 0, 1), ("take", 0, "oats"), ("take", 1, "oats"), ("meet", 0, 1)]
        check_answers(self, 3, deeds, [(0, 1), (0, 1), [(0, 1)], [(0, 1)], (1, 1)])
        kept = [((0, 2), [(0, 1)]), ((1, 1), [(0, 1)])]
        self.assertEqual(after(3, deeds)[3], [kept, kept, []])
        self.assertEqual(after(3, deeds + [("tell", 1, 2)])[0], [[], [], []])

    def test_two_hands_that_change_one_name_apart_and_meet_then(self):
        deeds = [("put", 0, "oats", 5), ("meet", 0, 1), ("change", 0, "oats", 6), ("change", 1, "oats", 7)]
        deeds += [("meet", 0, 1)]
        both = [("oats", (0, 2), 6), ("oats", (1, 1), 7)]
        tables, seen, knows, kept = after(2, deeds)
        self.assertEqual((tables, seen), ([both, both], [[2, 1], [2, 1]]))
        tables = after(2, deeds + [("change", 1, "oats", 8), ("tell", 1, 0)])[0]
        self.assertEqual(tables, [[("oats", (1, 2), 8)]] * 2)

    def test_an_entry_does_not_come_back_though_an_old_hand_tells_late(self):
        deeds = [("put", 0, "oats", 5), ("tell", 0, 3), ("meet", 0, 1), ("take", 0, "oats"), ("meet", 0, 1)]
        deeds += [("meet", 1, 2), ("meet", 0, 2)]
        oats = [("oats", (0, 1), 5)]
        for late in ([("tell", 3, 0)], [("tell", 3, 1), ("tell", 3, 2), ("tell", 1, 0)]):
            self.assertEqual(after(4, deeds + late)[0], [[], [], [], oats])
        self.assertEqual(after(4, deeds + [("meet", 3, 2)])[0], [[], [], [], []])

    def test_an_entry_does_not_come_back_after_all_is_forgotten(self):
        deeds = [("put", 0, "oats", 5), ("meet", 0, 1), ("take", 1, "oats"), ("meet", 0, 1)]
        self.assertEqual(after(2, deeds)[3], [[], []])
        self.assertEqual(after(2, deeds + [("meet", 0, 1), ("tell", 0, 1), ("tell", 1, 0)])[0], [[], []])

    def test_one_that_never_had_it_does_not_get_it(self):
        deeds = [("put", 0, "oats", 5), ("take", 0, "oats"), ("put", 0, "rye", 6), ("tell", 0, 1)]
        self.assertEqual(answers(2, deeds)[-1], 3)
        self.assertEqual(after(2, deeds)[0][1], [("rye", (0, 3), 6)])


class TellingAndMeeting(unittest.TestCase):
    AHEAD = [
        ("put", 0, "a", 1), ("put", 1, "b", 1), ("put", 2, "c", 1), ("put", 3, "d", 1), ("tell", 2, 0), ("tell", 3, 1),
        ("put", 2, "e", 1), ("put", 3, "f", 1), ("put", 0, "g", 1),
    ]

    def test_ahead_of_it(self):
        nought = [0] * 4
        seen, knows = after(4, self.AHEAD)[1:3]
        self.assertEqual(seen, [[2, 0, 1, 0], [0, 1, 0, 1], [0, 0, 2, 0], [0, 0, 0, 2]])
        self.assertEqual(knows, [
            [[2, 0, 1, 0], nought, [0, 0, 1, 0], nought],
            [nought, [0, 1, 0, 1], nought, [0, 0, 0, 1]],
            [nought, nought, [0, 0, 2, 0], nought],
            [nought, nought, nought, [0, 0, 0, 2]],
        ])

    def test_telling_number_by_number(self):
        ahead = after(4, self.AHEAD)
        tables, seen, knows, kept = after(4, self.AHEAD + [("tell", 0, 1)])
        self.assertEqual(seen[1], [2, 1, 1, 1])
        self.assertEqual(knows[1], [[2, 0, 1, 0], [2, 1, 1, 1], [0, 0, 1, 0], [0, 0, 0, 1]])
        for hand in (0, 2, 3):
            self.assertEqual((tables[hand], seen[hand]), (ahead[0][hand], ahead[1][hand]))
            self.assertEqual((knows[hand], kept[hand]), (ahead[2][hand], ahead[3][hand]))

    def test_the_one_that_tells_learns_nothing(self):
        deeds = [("put", 1, "oats", 5), ("tell", 0, 1)]
        check_after(self, 2, deeds, (
            [[], [("oats", (1, 1), 5)]], [[0, 0], [0, 1]], [[[0, 0], [0, 0]], [[0, 0], [0, 1]]], [[], []]
        ))

    def test_what_either_knew_of_a_third_is_joined(self):
        deeds = [("put", 0, "a", 1), ("put", 1, "b", 1), ("tell", 0, 2), ("tell", 2, 3), ("tell", 1, 2), ("tell", 2, 4)]
        knows = after(5, deeds)[2]
        self.assertEqual((knows[3][2], knows[4][2]), ([1, 0, 0, 0, 0], [1, 1, 0, 0, 0]))
        for kind, one, other in itertools.product(("tell", "meet"), (3, 4), (3, 4)):
            if one != other:
                seen, knows = after(5, deeds + [("put", 2, "c", 1), (kind, one, other)])[1:3]
                self.assertEqual(knows[other][2], [1, 1, 0, 0, 0])
                self.assertEqual(knows[other][other], seen[other])
                self.assertEqual(knows[other][one], seen[one])

    def test_the_most_of_what_either_knew_by_what_is_known_of_a_third_later_on(self):
        deeds = [("put", 2, "a", 1), ("tell", 2, 0), ("put", 2, "b", 1), ("tell", 2, 1)]
        for story in (deeds + [("tell", 0, 1)], deeds + [("meet", 1, 0)], deeds + [("tell", 1, 0), ("tell", 0, 1)]):
            self.assertEqual(after(3, story)[2][1][2], [0, 0, 2])

    def test_meeting(self):
        for meeting in (("meet", 0, 1), ("meet", 1, 0)):
            ahead = after(4, self.AHEAD)
            tables, seen, knows, kept = after(4, self.AHEAD + [meeting])
            self.assertEqual(seen[:2], [[2, 1, 1, 1], [2, 1, 1, 1]])
            known = [[2, 1, 1, 1], [2, 1, 1, 1], [0, 0, 1, 0], [0, 0, 0, 1]]
            self.assertEqual(knows[:2], [known, known])
            self.assertEqual(tables[0], tables[1])
            for each, was in zip((tables, seen, knows, kept), ahead):
                self.assertEqual(each[2:], was[2:])

    def test_a_chain_of_tellings_and_word_that_goes_round(self):
        deeds = [("put", 0, "oats", 5), ("tell", 0, 1), ("tell", 1, 2), ("tell", 2, 3), ("tell", 3, 0)]
        one, nought = [1, 0, 0, 0], [0, 0, 0, 0]
        check_answers(self, 4, deeds, [(0, 1), 1, 1, 1, 0])
        knows = after(4, deeds)[2]
        self.assertEqual(knows[0], [one, one, one, one])
        self.assertEqual(knows[1], [one, one, nought, nought])
        self.assertEqual(knows[2], [one, one, one, nought])
        self.assertEqual(knows[3], [one, one, one, one])

    def test_a_chain_of_meetings(self):
        deeds = [("put", 0, "oats", 5), ("meet", 0, 1), ("meet", 1, 2), ("put", 2, "rye", 6), ("meet", 2, 3)]
        check_answers(self, 4, deeds, [(0, 1), (0, 1), (0, 1), (2, 1), (0, 2)])
        knows = after(4, deeds)[2]
        one, two, nought = [1, 0, 0, 0], [1, 0, 1, 0], [0, 0, 0, 0]
        self.assertEqual(knows, [
            [one, one, nought, nought], [one, one, one, nought], [one, one, two, two], [one, one, two, two],
        ])


class KeepingAndForgetting(unittest.TestCase):
    TAKEN = [("put", 0, "oats", 5), ("take", 0, "oats")]
    KEPT = [((0, 2), [(0, 1)])]

    def check_kept(self, count, deeds, keepers):
        expected = [self.KEPT if hand in keepers else [] for hand in range(count)]
        self.assertEqual(after(count, self.TAKEN + deeds)[3], expected)

    def test_one_hand_alone_forgets_at_once(self):
        self.check_kept(1, [], [])
        self.assertEqual(after(1, [("put", 0, "a", 1), ("change", 0, "a", 2), ("change", 0, "a", 3)])[3], [[]])

    def test_two_hands(self):
        self.check_kept(2, [], [0])
        self.check_kept(2, [("tell", 1, 0)], [0])
        self.check_kept(2, [("tell", 0, 1)], [0])
        self.check_kept(2, [("tell", 0, 1), ("tell", 1, 0)], [])
        self.check_kept(2, [("meet", 0, 1)], [])
        self.check_kept(2, [("meet", 1, 0)], [])

    def test_three_hands_and_word_by_others(self):
        self.check_kept(3, [("meet", 0, 1)], [0, 1])
        self.check_kept(3, [("meet", 0, 1), ("tell", 1, 2)], [0, 1])
        self.check_kept(3, [("meet", 0, 1), ("meet", 1, 2)], [0])
        self.check_kept(3, [("meet", 0, 1), ("meet", 1, 2), ("tell", 1, 0)], [])
        self.check_kept(3, [("meet", 0, 1), ("meet", 1, 2), ("tell", 2, 0)], [])
        self.check_kept(3, [("tell", 0, 1), ("tell", 1, 2), ("tell", 2, 1)], [0])
        self.check_kept(3, [("tell", 0, 1), ("tell", 0, 2)], [0, 1, 2])
        self.check_kept(3, [("tell", 0, 1), ("tell", 0, 2), ("meet", 1, 2)], [0])

    def test_what_is_forgotten_is_not_taken_up_again_from_one_who_keeps_it(self):
        self.check_kept(2, [("tell", 0, 1), ("tell", 0, 1)], [0])
        self.check_kept(3, [("meet", 0, 1), ("meet", 1, 2), ("tell", 0, 1), ("tell", 0, 2)], [0])

    def test_a_deed_that_took_out_nothing_is_not_kept(self):
        deeds = [("put", 0, "oats", 5), ("change", 0, "rye", 6), ("take", 0, "barley"), ("meet", 0, 1)]
        self.assertEqual(after(3, deeds)[3], [[], [], []])

    def test_a_change_is_kept_with_what_it_took_out(self):
        deeds = [("put", 1, "oats", 5), ("put", 0, "oats", 6), ("tell", 1, 0), ("change", 0, "oats", 7), ("tell", 0, 1)]
        kept = [((0, 2), [(0, 1), (1, 1)])]
        self.assertEqual(after(3, deeds)[3], [kept, kept, []])

    def test_one_deed_is_forgotten_while_a_later_one_is_kept(self):
        deeds = self.TAKEN + [("meet", 0, 1), ("put", 0, "rye", 1), ("take", 0, "rye")]
        self.assertEqual(after(2, deeds)[3], [[((0, 4), [(0, 3)])], []])

    def test_a_row_there_and_back_twice(self):
        for count in (1, 2, 3, 20):
            there = [("meet", hand, hand + 1) for hand in range(count - 1)]
            ahead = [("put", hand, "oats", hand) for hand in range(count)] + there
            ahead += [("take", hand, "oats") for hand in range(count)]
            row = there + there[::-1]
            self.assertEqual(any(after(count, ahead + there)[3]), count > 2)
            tables, seen, knows, kept = after(count, ahead + row + row)
            self.assertEqual(kept, [[]] * count)
            self.assertEqual(tables, [tables[0]] * count)
            self.assertEqual(knows, [[seen[0]] * count] * count)

    def test_a_row_there_and_back_once_may_not_be_enough(self):
        there = [("meet", 0, 1), ("meet", 1, 2), ("meet", 2, 3)]
        kept = after(4, self.TAKEN + there + there[::-1][1:])[3]
        self.assertEqual(kept, [[], [], [], []])
        deeds = [("put", 3, "oats", 5), ("take", 3, "oats")] + there + there[::-1][1:]
        self.assertEqual(after(4, deeds)[3], [[], [], [((3, 2), [(3, 1)])], [((3, 2), [(3, 1)])]])


if __name__ == "__main__":
    unittest.main()

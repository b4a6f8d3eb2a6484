"""What holds over the whole program, tried on many drawn stories."""

import copy
import itertools
import random
import unittest

from meetbook.seen import covers, has_seen
from meetbook.story import after, answers
from tests.helper import check_after, check_answers, drawn_story, walked

SHORT = [(seed, 1 + seed % 5, 4 + seed % 37) for seed in range(300)]
LONG = [(1000, 20, 200), (1001, 20, 200), (1002, 7, 200), (1003, 3, 200), (1004, 1, 200), (1005, 24, 260)]


def hands_of(deed):
    return set(deed[1:3]) if deed[0] in ("tell", "meet") else {deed[1]}


def takers(count, deeds):
    """For each deed that took out something its mark and the marks taken out."""
    taken = {}
    for place, deed in enumerate(deeds):
        if deed[0] in ("take", "change"):
            hand = deed[1]
            ahead = after(count, deeds[:place])[0][hand]
            tables, seen = after(count, deeds[:place + 1])[:2]
            marks = [entry[1] for entry in ahead if entry not in tables[hand]]
            if marks:
                taken[hand, seen[hand][hand]] = marks
    return taken


class AgainstAPlainWalk(unittest.TestCase):
    def test_short_stories_and_long_ones_of_up_to_twenty_hands_and_beyond(self):
        for seed, count, many in SHORT + LONG:
            with self.subTest(seed=seed):
                deeds = drawn_story(seed, count, many)
                given, there = walked(count, deeds)
                check_answers(self, count, deeds, given)
                check_after(self, count, deeds, there)

    def test_all_stories_of_few_deeds(self):
        kinds = [("put", 0, "a", 1), ("put", 1, "a", 2), ("change", 1, "a", 3), ("take", 0, "a"), ("take", 1, "a")]
        kinds += [("tell", 0, 1), ("tell", 1, 2), ("meet", 0, 1), ("meet", 2, 0)]
        for deeds in itertools.product(kinds, repeat=4):
            story = list(deeds)
            self.assertEqual((answers(3, story), after(3, story)), walked(3, story))

    def test_the_drawn_stories_have_all_that_is_to_be_tried(self):
        told = []
        for seed, count, many in SHORT:
            deeds = drawn_story(seed, count, many)
            for deed, answer in zip(deeds, answers(count, deeds)):
                told.append((deed[0], type(answer), answer if type(answer) is str else None))
        for kind in ("put", "change", "take", "tell", "meet"):
            self.assertGreater(told.count((kind, str, "no hand")), 20)
        for kind, answer in (("put", tuple), ("change", tuple), ("take", list), ("tell", int), ("meet", tuple)):
            self.assertGreater(told.count((kind, answer, None)), 100)
        for kind in ("tell", "meet"):
            self.assertGreater(told.count((kind, str, "same hand")), 100)
        self.assertGreater(told.count(("take", type(None), None)), 100)


class HandsThatHaveSeenTheSame(unittest.TestCase):
    def test_within_one_story(self):
        pairs = 0
        for seed, count, many in SHORT:
            tables, seen = after(count, drawn_story(seed, count, many))[:2]
            for one, other in itertools.combinations(range(count), 2):
                if seen[one] == seen[other]:
                    self.assertEqual(tables[one], tables[other])
                    pairs += any(seen[one])
        self.assertGreater(pairs, 50)

    def test_by_whatever_way_they_meet(self):
        chance = random.Random(5)
        for seed in range(40):
            count = 2 + seed % 4
            deeds = drawn_story(seed, count, 15, strays=False)
            ends = []
            for way in range(6):
                pairs = list(itertools.permutations(range(count), 2)) * count
                chance.shuffle(pairs)
                meetings = [(chance.choice(("tell", "meet")), one, other) for one, other in pairs]
                meetings += [("meet", hand, hand + 1) for hand in range(count - 1)]
                meetings += [("tell", count - 1, hand) for hand in range(count - 1)]
                ends.append(after(count, deeds + meetings)[:2])
                self.assertEqual(ends[way], ends[0])
                self.assertTrue(all(table == ends[0][0][0] for table in ends[way][0]))


class WhatIsKnown(unittest.TestCase):
    def test_never_more_than_that_one_has_seen(self):
        for seed, count, many in SHORT + LONG:
            seen, knows = after(count, drawn_story(seed, count, many))[1:3]
            for hand in range(count):
                self.assertEqual(knows[hand][hand], seen[hand])
                for other in range(count):
                    self.assertTrue(covers(seen[other], knows[hand][other]))

    def test_nothing_known_or_seen_is_lost_again(self):
        for seed, count, many in SHORT[:60]:
            deeds = drawn_story(seed, count, many)
            ahead = after(count, [])[2]
            for length in range(1, len(deeds) + 1):
                knows = after(count, deeds[:length])[2]
                for hand in range(count):
                    for other in range(count):
                        self.assertTrue(covers(knows[hand][other], ahead[hand][other]))
                ahead = knows


class KeepingAndForgetting(unittest.TestCase):
    def test_nothing_is_forgotten_that_some_hand_has_not_seen(self):
        tried = 0
        for seed, count, many in SHORT[:150]:
            deeds = drawn_story(seed, count, many, strays=False)
            seen, knows, kept = after(count, deeds)[1:]
            taken = takers(count, deeds)
            for hand, deed in itertools.product(range(count), taken):
                ours = [pair for pair in kept[hand] if pair[0] == deed]
                if has_seen(seen[hand], deed) and not all(has_seen(row, deed) for row in seen):
                    tried += 1
                    self.assertEqual(ours, [(deed, taken[deed])])
                if all(has_seen(row, deed) for row in knows[hand]) or not has_seen(seen[hand], deed):
                    self.assertEqual(ours, [])
        self.assertGreater(tried, 200)

    def rows_of_meetings(self, hands):
        there = [("meet", one, other) for one, other in zip(hands, hands[1:])]
        return there + there[::-1], there + there[:-1][::-1]

    def test_after_meeting_in_a_row_there_and_back_twice_nothing_is_kept(self):
        chance = random.Random(9)
        for seed, count, many in SHORT + LONG[:3]:
            hands = list(range(count))
            chance.shuffle(hands)
            deeds = drawn_story(seed, count, many)
            for row in self.rows_of_meetings(hands):
                tables, seen, knows, kept = after(count, deeds + row + row)
                self.assertEqual(kept, [[] for hand in range(count)])
                self.assertTrue(all(table == tables[0] for table in tables))
                self.assertTrue(all(row == seen[0] for each in knows for row in each))

    def test_an_entry_that_no_hand_has_any_more_comes_back_nowhere(self):
        gone = 0
        for seed, count, many in SHORT[:150]:
            deeds = drawn_story(seed, count, many)
            had = set()
            for length in range(1, len(deeds) + 1):
                tables = after(count, deeds[:length])[0]
                here = {entry[1] for table in tables for entry in table}
                born = answers(count, deeds[:length])[-1] if deeds[length - 1][0] in ("put", "change") else None
                self.assertEqual(here - had - {born}, set())
                gone += len(had - here)
                had = here
        self.assertGreater(gone, 200)


class DeedsOfOtherHands(unittest.TestCase):
    def test_deeds_with_no_hand_in_common_may_change_places(self):
        swaps = 0
        for seed, count, many in SHORT:
            deeds = drawn_story(seed, count, many)
            given, there = answers(count, deeds), after(count, deeds)
            for place in range(len(deeds) - 1):
                if not hands_of(deeds[place]) & hands_of(deeds[place + 1]):
                    swapped, expected = list(deeds), copy.deepcopy(given)
                    swapped[place:place + 2] = swapped[place:place + 2][::-1]
                    expected[place:place + 2] = expected[place:place + 2][::-1]
                    self.assertEqual(answers(count, swapped), expected)
                    self.assertEqual(after(count, swapped), there)
                    swaps += 1
        self.assertGreater(swaps, 500)


class HandsNumberedAnew(unittest.TestCase):
    def renumber_mark(self, mark, anew):
        return (anew[mark[0]], mark[1])

    def renumber_deed(self, deed, anew):
        hands = 2 if deed[0] in ("tell", "meet") else 1
        return deed[:1] + tuple(anew.get(hand, hand) for hand in deed[1:1 + hands]) + deed[1 + hands:]

    def renumber_answer(self, deed, answer, anew):
        if deed[0] in ("put", "change") and type(answer) is tuple:
            return self.renumber_mark(answer, anew)
        if type(answer) is list:
            return sorted(self.renumber_mark(mark, anew) for mark in answer)
        return answer

    def placed(self, things, anew):
        return [things[old] for new, old in sorted((new, old) for old, new in anew.items())]

    def renumber_after(self, there, anew):
        tables, seen, knows, kept = there
        tables = [
            sorted((name, self.renumber_mark(mark, anew), value) for name, mark, value in table) for table in tables
        ]
        kept = [
            sorted((self.renumber_mark(deed, anew), sorted(self.renumber_mark(mark, anew) for mark in marks))
                   for deed, marks in pairs) for pairs in kept
        ]
        seen = [self.placed(row, anew) for row in seen]
        knows = [self.placed([self.placed(row, anew) for row in rows], anew) for rows in knows]
        return tuple(self.placed(each, anew) for each in (tables, seen, knows, kept))

    def test_the_hands_numbers_may_be_given_out_anew(self):
        chance = random.Random(3)
        for seed, count, many in SHORT[:200] + LONG[:2]:
            deeds = drawn_story(seed, count, many)
            numbers = list(range(count))
            chance.shuffle(numbers)
            anew = dict(enumerate(numbers))
            renumbered = [self.renumber_deed(deed, anew) for deed in deeds]
            expected = [self.renumber_answer(deed, answer, anew) for deed, answer in zip(deeds, answers(count, deeds))]
            self.assertEqual(answers(count, renumbered), expected)
            self.assertEqual(after(count, renumbered), self.renumber_after(after(count, deeds), anew))


if __name__ == "__main__":
    unittest.main()

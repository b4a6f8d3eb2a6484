"""What several test files share: strict comparing, drawn stories, and a plain walk to hold stories against."""

import copy
import random

from meetbook.story import after, answers

GREAT = 10 ** 100 - 1
BEYOND = 10 ** 130
NAMES = ("oats", "oat", "oatsack", "rye", "", " ", "Oats", "\u00e9")


def kinds(value):
    """The kinds of a value and of all within it, for True == 1 and the like are not enough."""
    if type(value) in (list, tuple):
        return (type(value), [kinds(each) for each in value])
    return type(value)


def lists_in(value):
    """All lists within a value, itself among them."""
    found = [value] if type(value) is list else []
    if type(value) in (list, tuple):
        for each in value:
            found += lists_in(each)
    return found


def spoil(value):
    """Changes every list within a value, from the inside out."""
    for each in reversed(lists_in(value)):
        each.insert(0, "spoilt")
        each.append("spoilt")


def check(case, function, handed_in, expected):
    """The answer, its kinds, that nothing handed in is changed, and that the answer is the caller's own."""
    ahead = copy.deepcopy(handed_in)
    got = function(*handed_in)
    case.assertEqual(got, expected)
    case.assertEqual(kinds(got), kinds(expected))
    lists = lists_in(got)
    theirs = [id(each) for each in lists_in(list(handed_in))]
    case.assertEqual(len(lists), len({id(each) for each in lists}))
    case.assertFalse([each for each in lists if id(each) in theirs])
    spoil(got)
    case.assertEqual(handed_in, ahead)
    case.assertEqual(kinds(handed_in), kinds(ahead))
    case.assertEqual(function(*handed_in), expected)


def check_answers(case, count, deeds, expected):
    check(case, answers, (count, deeds), expected)


def check_after(case, count, deeds, expected):
    check(case, after, (count, deeds), expected)


class Walk:
    """The document's points word by word, over sets of all the deeds that there were.

    A hand's states are counted, and with each state goes the set of the deeds seen by then. What a hand
    knows of another is what that one had seen in the last of its states that word has come from.
    """

    def __init__(self, count):
        self.count = count
        self.log = {}
        self.numbers = [0] * count
        self.past = [[0] * count for hand in range(count)]
        self.seen_at = {(hand, 0): frozenset() for hand in range(count)}

    def known(self, hand, of):
        return self.seen_at[of, self.past[hand][of]]

    def seen(self, hand):
        return self.known(hand, hand)

    def step(self, hand, seen):
        self.past[hand][hand] += 1
        self.seen_at[hand, self.past[hand][hand]] = frozenset(seen)

    def table(self, hand):
        gone = {mark for deed in self.seen(hand) for mark in self.log[deed][1]}
        entries = [self.log[deed][0] for deed in self.seen(hand) if self.log[deed][0] and deed not in gone]
        return sorted(entries)

    def kept(self, hand):
        known = [self.known(hand, of) for of in range(self.count)]
        deeds = [deed for deed in sorted(self.seen(hand)) if self.log[deed][1]]
        return [(deed, self.log[deed][1]) for deed in deeds if not all(deed in seen for seen in known)]

    def told(self, marks):
        many = [len([mark for mark in marks if mark[0] == hand]) for hand in range(self.count)]
        assert marks == {(hand, each + 1) for hand in range(self.count) for each in range(many[hand])}
        return many

    def act(self, hand, name, entry, gone):
        self.numbers[hand] += 1
        mark = (hand, self.numbers[hand])
        self.log[mark] = ((name, mark, entry[0]) if entry else None, gone)
        self.step(hand, self.seen(hand) | {mark})
        return mark

    def answer(self, deed):
        hands = deed[1:3] if deed[0] in ("tell", "meet") else deed[1:2]
        if [hand for hand in hands if hand not in range(self.count)]:
            return "no hand"
        if deed[0] in ("tell", "meet"):
            return "same hand" if hands[0] == hands[1] else self.pass_on(deed[0], hands[0], hands[1])
        gone = [entry[1] for entry in self.table(deed[1]) if entry[0] == deed[2]]
        if deed[0] == "take":
            if gone:
                self.act(deed[1], deed[2], None, gone)
            return gone or None
        return self.act(deed[1], deed[2], deed[3:], gone if deed[0] == "change" else [])

    def pass_on(self, kind, one, other):
        seen = self.seen(one) | self.seen(other)
        many = (len(seen - self.seen(one)), len(seen - self.seen(other)))
        both = [max(pair) for pair in zip(self.past[one], self.past[other])]
        self.past[other] = list(both)
        self.step(other, seen)
        if kind == "tell":
            return many[1]
        self.past[one] = list(both)
        self.step(one, seen)
        self.past[one][other] = self.past[other][other]
        self.past[other][one] = self.past[one][one]
        return many

    def after(self):
        hands = range(self.count)
        return (
            [self.table(hand) for hand in hands],
            [self.told(self.seen(hand)) for hand in hands],
            [[self.told(self.known(hand, of)) for of in hands] for hand in hands],
            [self.kept(hand) for hand in hands],
        )


def walked(count, deeds):
    """The answers and what is after, by the plain walk."""
    walk = Walk(count)
    given = [walk.answer(deed) for deed in deeds]
    return given, walk.after()


def drawn_deed(chance, count, strays):
    hands = list(range(count)) + ([-1, count, -count - 1, BEYOND, -BEYOND] if strays and chance.random() < 0.2 else [])
    kind = chance.choice(("put", "put", "change", "take", "take", "tell", "meet", "meet"))
    if kind in ("tell", "meet"):
        return (kind, chance.choice(hands), chance.choice(hands))
    name = chance.choice(NAMES[:chance.choice((1, 2, 3, len(NAMES)))])
    if kind == "take":
        return (kind, chance.choice(hands), name)
    return (kind, chance.choice(hands), name, chance.choice((0, 1, -1, 7, GREAT, -GREAT, BEYOND)))


def drawn_story(seed, count, many, strays=True):
    """A story like any other, yet the same at every run."""
    chance = random.Random(seed)
    return [drawn_deed(chance, count, strays) for each in range(many)]

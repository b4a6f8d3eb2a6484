"""The hall: all hands, each found by its number, and what is done by one or two of them."""

from meetbook.errors import NoHand, SameHand
from meetbook.hand import Hand


class Hall:
    def __init__(self, count):
        self.hands = [Hand(number, count) for number in range(count)]

    def hand(self, number):
        # Asked ahead of the index, where a number below nought would find a hand from the end.
        if not 0 <= number < len(self.hands):
            raise NoHand("there is no hand of that number")
        return self.hands[number]

    def pair(self, one, other):
        hands = (self.hand(one), self.hand(other))
        if one == other:
            raise SameHand("a hand can't tell or meet itself")
        return hands

    def put(self, number, name, value):
        return self.hand(number).put(name, value)

    def change(self, number, name, value):
        return self.hand(number).change(name, value)

    def take(self, number, name):
        return self.hand(number).take(name)

    def tell(self, one, other):
        hands = self.pair(one, other)
        return hands[1].hear(hands[0])

    def meet(self, one, other):
        hands = self.pair(one, other)
        many = hands[1].hear(hands[0])
        gained = (hands[0].hear(hands[1]), many)
        # Only now has the one heard all, and the other is to know that of it.
        hands[1].hear(hands[0])
        return gained

import unittest

from meetbook.errors import NoHand, SameHand
from meetbook.hall import Hall
from tests.helper import BEYOND


def state(hall):
    return [(hand.entries(), list(hand.seen()), hand.known(), hand.in_mind()) for hand in hall.hands]


class Refusals(unittest.TestCase):
    def setUp(self):
        self.hall = Hall(3)
        self.hall.put(0, "oats", 5)
        self.hall.meet(0, 1)
        self.hall.take(1, "oats")
        self.ahead = state(self.hall)

    def check_refused(self, refusal, act):
        with self.assertRaises(refusal) as caught:
            act()
        self.assertIs(type(caught.exception), refusal)
        self.assertEqual(state(self.hall), self.ahead)

    def test_a_hand_that_there_is_not(self):
        for stray in (-1, 3, -3, BEYOND, -BEYOND):
            with self.subTest(stray=stray):
                self.check_refused(NoHand, lambda: self.hall.hand(stray))
                self.check_refused(NoHand, lambda: self.hall.put(stray, "oats", 1))
                self.check_refused(NoHand, lambda: self.hall.change(stray, "oats", 1))
                self.check_refused(NoHand, lambda: self.hall.take(stray, "oats"))
                for act in (self.hall.tell, self.hall.meet):
                    self.check_refused(NoHand, lambda: act(stray, 0))
                    self.check_refused(NoHand, lambda: act(0, stray))
                    self.check_refused(NoHand, lambda: act(stray, stray))

    def test_a_hand_with_itself(self):
        for hand in range(3):
            for act in (self.hall.tell, self.hall.meet):
                self.check_refused(SameHand, lambda: act(hand, hand))


class Apart(unittest.TestCase):
    def test_two_halls_have_nothing_in_common(self):
        one, other = Hall(2), Hall(2)
        one.put(0, "oats", 5)
        one.change(0, "oats", 6)
        self.assertEqual(state(other), state(Hall(2)))
        self.assertEqual(other.put(0, "rye", 1), (0, 1))

    def test_hands_that_have_met_go_on_apart(self):
        hall = Hall(2)
        hall.put(0, "oats", 5)
        hall.meet(0, 1)
        hall.take(0, "oats")
        ahead = state(hall)
        hall.put(1, "rye", 6)
        self.assertEqual(state(hall)[0], ahead[0])
        self.assertEqual(state(hall)[1][0], [("oats", (0, 1), 5), ("rye", (1, 1), 6)])


if __name__ == "__main__":
    unittest.main()

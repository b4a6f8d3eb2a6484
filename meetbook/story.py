"""Stories: lists of deeds, done one after the other from empty tables on."""

from meetbook.errors import NoHand, SameHand
from meetbook.hall import Hall


def done(hall, deed):
    kind = deed[0]
    if kind == "put":
        return hall.put(deed[1], deed[2], deed[3])
    if kind == "change":
        return hall.change(deed[1], deed[2], deed[3])
    if kind == "take":
        return hall.take(deed[1], deed[2])
    if kind == "tell":
        return hall.tell(deed[1], deed[2])
    return hall.meet(deed[1], deed[2])


def answer_to(hall, deed):
    try:
        return done(hall, deed)
    except NoHand:
        return "no hand"
    except SameHand:
        return "same hand"


def answers(count, deeds):
    hall = Hall(count)
    return [answer_to(hall, deed) for deed in deeds]


def after(count, deeds):
    hall = Hall(count)
    for deed in deeds:
        answer_to(hall, deed)
    return (
        [hand.entries() for hand in hall.hands],
        [list(hand.seen()) for hand in hall.hands],
        [hand.known() for hand in hall.hands],
        [hand.in_mind() for hand in hall.hands],
    )

"""The refusals of the program, one class for each."""


class MeetError(ValueError):
    pass


class NoHand(MeetError):
    pass


class SameHand(MeetError):
    pass


class NoLine(MeetError):
    pass

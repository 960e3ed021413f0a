"""The refusals, each a class of its own straight under GuardError."""


class GuardError(ValueError):
    pass


class BadPlaces(GuardError):
    pass


class BadTie(GuardError):
    pass


class NoPlace(GuardError):
    pass


class TooLarge(GuardError):
    pass


class BadGuards(GuardError):
    pass


class NoCall(GuardError):
    pass


class NoAnswer(GuardError):
    pass


class NoGuide(GuardError):
    pass


class NoCaller(GuardError):
    pass


class NoStep(GuardError):
    pass


class NotTwo(GuardError):
    pass


class NotWood(GuardError):
    pass


class BadColony(GuardError):
    pass


class BadText(GuardError):
    def __init__(self, row):
        GuardError.__init__(self, f"row {row} is wrong")
        self.row = row

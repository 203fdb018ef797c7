"""The refusals of the program, one class for each."""


class FairError(ValueError):
    pass


class NoTable(FairError):
    pass


class NoDealing(FairError):
    pass


class NoPrices(FairError):
    pass


class NoHand(FairError):
    pass


class NoTask(FairError):
    pass


class NoNote(FairError):
    pass

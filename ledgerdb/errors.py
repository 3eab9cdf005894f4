"""The errors by which the program refuses."""


class LedgerError(ValueError):
    pass


class Dead(LedgerError):
    pass


class NoPage(LedgerError):
    pass


class NoBase(LedgerError):
    pass


class WrongWord(LedgerError):
    # The place is the wrong word's number, from 1 on.
    def __init__(self, place):
        LedgerError.__init__(self, f"word {place} is wrong")
        self.place = place


class Constraint(LedgerError):
    pass


class NoRoom(LedgerError):
    pass

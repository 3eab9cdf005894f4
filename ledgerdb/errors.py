"""The errors by which the program refuses."""


class LedgerError(ValueError):
    pass


class Dead(LedgerError):
    pass


class NoPage(LedgerError):
    pass


class NoBase(LedgerError):
    pass

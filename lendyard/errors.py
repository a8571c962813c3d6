"""The refusals of the yard, one class each, all under LoanError."""


class LoanError(ValueError):
    pass


class NoWorker(LoanError):
    pass


class NoAmount(LoanError):
    pass


class OverClaim(LoanError):
    pass


class NotFree(LoanError):
    pass


class Knotted(LoanError):
    pass


class NotLent(LoanError):
    pass

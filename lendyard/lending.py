"""Lending and giving back: the loans behind it, or a refusal."""

from lendyard.amounts import copies, fits, free_of, less, more
from lendyard.errors import Knotted, NoAmount, NotFree, NotLent, NoWorker, OverClaim
from lendyard.ways import way_out


def check_deed(loans, worker, amounts):
    # A number below nought would be taken as an index from the end.
    if worker < 0 or worker >= len(loans):
        raise NoWorker("there is no worker of that number")
    if any([number < 0 for number in amounts]):
        raise NoAmount("an amount is below nought")


def with_loan(loans, worker, loan):
    # The other loans are copied too, so that no list of the answer is one that was handed in.
    behind = copies(loans)
    behind[worker] = loan
    return behind


def lent(stock, claims, loans, worker, amounts):
    check_deed(loans, worker, amounts)
    loan = more(loans[worker], amounts)
    if not fits(loan, claims[worker]):
        raise OverClaim("the loan would be more than the claim")
    if not fits(amounts, free_of(stock, loans)):
        raise NotFree("more is asked for than is free")
    behind = with_loan(loans, worker, loan)
    if way_out(stock, claims, behind)[0] == "knot":
        raise Knotted("there would be a knot")
    return behind


def returned(loans, worker, amounts):
    check_deed(loans, worker, amounts)
    if not fits(amounts, loans[worker]):
        raise NotLent("more is given back than is lent")
    return with_loan(loans, worker, less(loans[worker], amounts))

"""Amounts: lists of whole numbers, one for each kind."""


def more(amounts, other):
    return [number + added for number, added in zip(amounts, other)]


def less(amounts, other):
    return [number - taken for number, taken in zip(amounts, other)]


def free_of(stock, loans):
    # A copy, so that the answer is not the stock itself where there is no worker.
    free = list(stock)
    for loan in loans:
        free = less(free, loan)
    return free


def fits(amounts, other):
    for number, bound in zip(amounts, other):
        if number > bound:
            return False
    return True


def copies(loans):
    return [list(loan) for loan in loans]

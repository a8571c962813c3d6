"""A day: deeds done one by one, each with its answer and the loans behind it."""

from lendyard.amounts import copies
from lendyard.errors import Knotted, NoAmount, NotFree, NotLent, NoWorker, OverClaim
from lendyard.lending import lent, returned


def done(stock, claims, loans, deed):
    if deed[0] == "ask":
        return ("lent", lent(stock, claims, loans, deed[1], deed[2]))
    return ("given back", returned(loans, deed[1], deed[2]))


def answered(stock, claims, loans, deed):
    try:
        return done(stock, claims, loans, deed)
    except NoWorker:
        return ("no worker", loans)
    except NoAmount:
        return ("no amount", loans)
    except OverClaim:
        return ("over claim", loans)
    except NotFree:
        return ("not free", loans)
    except Knotted:
        return ("knot", loans)
    except NotLent:
        return ("not lent", loans)


def steps(stock, claims, deeds):
    loans = [[0] * len(claim) for claim in claims]
    pairs = []
    for deed in deeds:
        pair = answered(stock, claims, loans, deed)
        loans = pair[1]
        pairs.append(pair)
    return pairs


def answers(stock, claims, deeds):
    return [pair[0] for pair in steps(stock, claims, deeds)]


def loans_behind(stock, claims, deeds):
    # A refused deed leaves the very lists of the deed ahead: each deed is told copies of its own.
    return [copies(pair[1]) for pair in steps(stock, claims, deeds)]

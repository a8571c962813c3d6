"""What the tests hold the program against: the document's points by their words, without the program itself."""

import copy
import itertools
import random
import unittest


def lists_in(value):
    if isinstance(value, list):
        yield value
    if isinstance(value, (list, tuple)):
        for part in value:
            yield from lists_in(part)


def free_in(stock, loans):
    return [stock[kind] - sum(loan[kind] for loan in loans) for kind in range(len(stock))]


def can_finish(claim, loan, amounts):
    return all(claim[kind] - loan[kind] <= amounts[kind] for kind in range(len(amounts)))


def free_with(stock, loans, workers):
    """What is free and the loans of these workers, put together."""
    free = free_in(stock, loans)
    return [free[kind] + sum(loans[worker][kind] for worker in workers) for kind in range(len(stock))]


def is_order(stock, claims, loans, row):
    if sorted(row) != list(range(len(claims))):
        return False
    free = free_in(stock, loans)
    for worker in row:
        if not can_finish(claims[worker], loans[worker], free):
            return False
        free = [number + back for number, back in zip(free, loans[worker])]
    return True


def is_knot(stock, claims, loans, row):
    if len(row) == 0 or list(row) != sorted(set(row)):
        return False
    if row[0] < 0 or row[-1] >= len(claims):
        return False
    within = set(row)
    others = [worker for worker in range(len(claims)) if worker not in within]
    free = free_with(stock, loans, others)
    return not any(can_finish(claims[worker], loans[worker], free) for worker in row)


def all_orders(stock, claims, loans):
    rows = itertools.permutations(range(len(claims)))
    return [list(row) for row in rows if is_order(stock, claims, loans, row)]


def all_knots(stock, claims, loans):
    workers = range(len(claims))
    rows = [row for size in range(1, len(claims) + 1) for row in itertools.combinations(workers, size)]
    return [list(row) for row in rows if is_knot(stock, claims, loans, row)]


def has_knot(stock, claims, loans):
    return len(all_knots(stock, claims, loans)) > 0


def loans_with(loans, worker, loan):
    return [loan if number == worker else list(held) for number, held in enumerate(loans)]


def loans_if_lent(loans, worker, amounts):
    return [
        [held + number for held, number in zip(loan, amounts)] if index == worker else list(loan)
        for index, loan in enumerate(loans)
    ]


def refusals_of_ask(stock, claims, loans, worker, amounts):
    """Point 8: the names of all refusals that hold, as they are named there from the first to the last."""
    kinds = range(len(stock))
    there = worker in range(len(claims))
    behind = loans_if_lent(loans, worker, amounts)
    free = free_in(stock, loans)
    held = {
        "NoWorker": not there,
        "NoAmount": any(amounts[kind] < 0 for kind in kinds),
        "OverClaim": there and any(behind[worker][kind] > claims[worker][kind] for kind in kinds),
        "NotFree": any(amounts[kind] > free[kind] for kind in kinds),
        "Knotted": has_knot(stock, claims, behind),
    }
    return [name for name, holds in held.items() if holds]


def asked(stock, claims, loans, worker, amounts):
    """Point 8: the name of the refusal that is told, or the loans behind the lending."""
    held = refusals_of_ask(stock, claims, loans, worker, amounts)
    return held[0] if held else loans_if_lent(loans, worker, amounts)


def given(loans, worker, amounts):
    """Point 9: the name of the refusal, or the loans behind the giving back."""
    kinds = range(len(amounts))
    if worker not in range(len(loans)):
        return "NoWorker"
    if any(amounts[kind] < 0 for kind in kinds):
        return "NoAmount"
    if any(amounts[kind] > loans[worker][kind] for kind in kinds):
        return "NotLent"
    return loans_with(loans, worker, [loans[worker][kind] - amounts[kind] for kind in kinds])


WORDS = {
    "NoWorker": "no worker",
    "NoAmount": "no amount",
    "OverClaim": "over claim",
    "NotFree": "not free",
    "Knotted": "knot",
    "NotLent": "not lent",
}


def day_by_the_words(stock, claims, deeds):
    """Point 10: the answers, and the loans behind each deed."""
    loans = [[0 for kind in stock] for claim in claims]
    texts = []
    told = []
    for word, worker, amounts in deeds:
        if word == "ask":
            outcome = asked(stock, claims, loans, worker, amounts)
        else:
            outcome = given(loans, worker, amounts)
        if isinstance(outcome, str):
            texts.append(WORDS[outcome])
        else:
            texts.append({"ask": "lent", "give": "given back"}[word])
            loans = outcome
        told.append(copy.deepcopy(loans))
    return texts, told


def small_yards(workers, kinds, most_stock, most_claim):
    """Every yard of this size with no number above these bounds; claims may be more than the stock."""
    pairs = [(claim, loan) for claim in range(most_claim + 1) for loan in range(claim + 1)]
    for held in itertools.product(itertools.product(pairs, repeat=kinds), repeat=workers):
        claims = [[claim for claim, loan in worker] for worker in held]
        loans = [[loan for claim, loan in worker] for worker in held]
        lent = [sum(loan[kind] for loan in loans) for kind in range(kinds)]
        for stock in itertools.product(*[range(least, most_stock + 1) for least in lent]):
            yield list(stock), copy.deepcopy(claims), copy.deepcopy(loans)


def chance_yard(chance, workers, kinds, most, rest):
    """A yard with loans up to `most` and rests up to `rest`; some claims may be more than the stock."""
    loans = [[chance.randint(0, most) for kind in range(kinds)] for worker in range(workers)]
    claims = [[number + chance.randint(0, rest) for number in loan] for loan in loans]
    stock = [chance.randint(0, rest) + sum(loan[kind] for loan in loans) for kind in range(kinds)]
    return stock, claims, loans


def chain(order, kinds, free, step):
    """A yard in which the workers can finish in this order alone, each with just what is there by then."""
    loans = [[0] * kinds for worker in order]
    for place, worker in enumerate(order):
        loans[worker][place % kinds] = step
    claims = [None for worker in order]
    there = [free] * kinds
    for worker in order:
        claims[worker] = [number + held for number, held in zip(there, loans[worker])]
        there = [number + held for number, held in zip(there, loans[worker])]
    return there, claims, loans


def shuffled(numbers, seed):
    row = list(numbers)
    random.Random(seed).shuffle(row)
    return row


class YardTest(unittest.TestCase):
    def same(self, answer, right):
        # assertEqual would spell out the difference, which takes minutes where the lists are long.
        if answer != right:
            self.fail(f"{answer!r:.1000} is not {right!r:.1000}")

    def untouched(self, function, *handed):
        """The function's answer, once it is sure that nothing handed in is changed or a part of the answer."""
        ahead = copy.deepcopy(handed)
        try:
            answer = function(*handed)
        finally:
            self.same(handed, ahead)
        places = {id(one) for one in lists_in(handed)}
        own = list(lists_in(answer))
        self.assertFalse([one for one in own if id(one) in places], "a list handed in is part of the answer")
        self.assertEqual(len({id(one) for one in own}), len(own), "one list stands twice in the answer")
        return answer

    def refused(self, refusal, function, *handed):
        with self.assertRaises(refusal) as taken:
            self.untouched(function, *handed)
        self.assertIs(type(taken.exception), refusal)

    def whole(self, value):
        """Lists of whole numbers alone, True and False not among them."""
        if isinstance(value, int):
            self.assertIs(type(value), int)
        else:
            self.assertIs(type(value), list)
            for part in value:
                self.whole(part)

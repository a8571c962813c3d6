"""Ways out: an order in which all workers can finish, or a knot of workers who can't."""

from lendyard.amounts import fits, free_of, less, more


def way_out(stock, claims, loans):
    free = free_of(stock, loans)
    rests = [less(claim, loan) for claim, loan in zip(claims, loans)]
    order = []
    waiting = list(range(len(rests)))
    while waiting:
        ready = [worker for worker in waiting if fits(rests[worker], free)]
        if not ready:
            return ("knot", waiting)
        # All who are ready go at once: what is free only grows, so none of them can stop another.
        for worker in ready:
            free = more(free, loans[worker])
        order.extend(ready)
        waiting = [worker for worker in waiting if worker not in ready]
    return ("order", order)

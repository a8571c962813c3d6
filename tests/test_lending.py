import itertools
import unittest

import yard_checks
from lendyard.errors import Knotted, LoanError, NoAmount, NotFree, NotLent, NoWorker, OverClaim
from lendyard.lending import lent, returned

GREAT = (10 ** 12, 10 ** 60, 10 ** 400)

REFUSALS = {
    "NoWorker": NoWorker,
    "NoAmount": NoAmount,
    "OverClaim": OverClaim,
    "NotFree": NotFree,
    "Knotted": Knotted,
    "NotLent": NotLent,
}


class LendingCheck(yard_checks.YardTest):
    def as_told(self, outcome, function, *handed):
        """The function refuses or answers as `outcome` tells: a refusal's name, or the loans behind."""
        if isinstance(outcome, str):
            self.refused(REFUSALS[outcome], function, *handed)
        else:
            answer = self.untouched(function, *handed)
            self.whole(answer)
            self.same(answer, outcome)


class LentTest(LendingCheck):
    def check(self, outcome, *handed):
        self.as_told(outcome, lent, *handed)

    def test_lent(self):
        self.check([[2]], [5], [[3]], [[0]], 0, [2])
        self.check([[3]], [5], [[3]], [[1]], 0, [2])
        self.check([[1, 2], [1, 0]], [3, 3], [[2, 2], [2, 1]], [[0, 1], [1, 0]], 0, [1, 1])
        self.check([[0, 1], [2, 1]], [3, 3], [[2, 2], [2, 1]], [[0, 1], [1, 0]], 1, [1, 1])

    def test_only_the_asking_workers_loan_is_changed(self):
        stock = [9, 9]
        claims = [[3, 3]] * 3
        for worker in range(3):
            with self.subTest(worker=worker):
                behind = [[1, 0], [0, 2], [1, 1]]
                behind[worker] = [behind[worker][0] + 1, behind[worker][1] + 1]
                self.check(behind, stock, claims, [[1, 0], [0, 2], [1, 1]], worker, [1, 1])

    def test_the_example_of_point_8(self):
        self.check("OverClaim", [1, 4], [[3, 1]], [[0, 0]], 0, [2, 2])
        self.check("OverClaim", [2, 4], [[1, 0], [3, 1]], [[1, 0], [0, 0]], 1, [2, 2])
        self.check("NotFree", [1, 4], [[3, 1]], [[0, 0]], 0, [2, 1])
        self.check("NotFree", [1, 4], [[3, 2]], [[0, 0]], 0, [2, 2])

    def test_no_worker_of_that_number(self):
        for worker in (-1, -2, -3, 2, 3, 99, 10 ** 12, -10 ** 12, 10 ** 60, -10 ** 60):
            for amounts in ([0, 0], [1, 0]):
                with self.subTest(worker=worker, amounts=amounts):
                    self.check("NoWorker", [5, 5], [[2, 2], [2, 2]], [[0, 0], [0, 0]], worker, amounts)

    def test_no_worker_at_all(self):
        for worker in (-1, 0, 1, 10 ** 12):
            for amounts in ([0], [1], [9], [-1]):
                with self.subTest(worker=worker, amounts=amounts):
                    self.check("NoWorker", [5], [], [], worker, amounts)

    def test_the_first_and_the_last_worker_are_there(self):
        claims = [[1] for worker in range(100)]
        loans = [[0] for worker in range(100)]
        for worker in (0, 99):
            self.check(yard_checks.loans_with(loans, worker, [1]), [5], claims, loans, worker, [1])
        for worker in (-100, -1, 100):
            self.check("NoWorker", [5], claims, loans, worker, [1])

    def test_an_amount_below_nought(self):
        for kind in range(3):
            for number in (-1, -2, -10 ** 60):
                with self.subTest(kind=kind, number=number):
                    amounts = [1, 1, 1]
                    amounts[kind] = number
                    self.check("NoAmount", [5, 5, 5], [[3, 3, 3]], [[1, 1, 1]], 0, amounts)
                    amounts = [0, 0, 0]
                    amounts[kind] = number
                    self.check("NoAmount", [5, 5, 5], [[3, 3, 3]], [[1, 1, 1]], 0, amounts)
        self.check("NoAmount", [5], [[3]], [[1]], 0, [-1])

    def test_as_much_as_the_claim_and_one_more(self):
        stock = [9, 9, 9]
        for loan in ([0, 0, 0], [1, 2, 0]):
            rest = [3 - loan[0], 4 - loan[1], 5 - loan[2]]
            self.check([[3, 4, 5]], stock, [[3, 4, 5]], [loan], 0, rest)
            for kind in range(3):
                with self.subTest(loan=loan, kind=kind):
                    amounts = list(rest)
                    amounts[kind] += 1
                    self.check("OverClaim", stock, [[3, 4, 5]], [loan], 0, amounts)
                    alone = [0, 0, 0]
                    alone[kind] = rest[kind] + 1
                    self.check("OverClaim", stock, [[3, 4, 5]], [loan], 0, alone)

    def test_the_claim_is_the_asking_workers_own(self):
        claims = [[1], [3]]
        loans = [[0], [0]]
        self.check([[0], [2]], [9], claims, loans, 1, [2])
        self.check("OverClaim", [9], claims, loans, 0, [2])

    def test_the_loan_is_the_asking_workers_own(self):
        claims = [[2], [2]]
        self.check([[2], [1]], [9], claims, [[2], [0]], 1, [1])
        self.check("OverClaim", [9], claims, [[2], [0]], 0, [1])

    def test_as_much_as_is_free_and_one_more(self):
        stock = [4, 5, 6]
        claims = [[4, 5, 6], [1, 1, 1]]
        loans = [[0, 1, 0], [1, 1, 1]]
        self.check([[3, 4, 5], [1, 1, 1]], stock, claims, loans, 0, [3, 3, 5])
        for kind in range(3):
            with self.subTest(kind=kind):
                amounts = [3, 3, 5]
                amounts[kind] += 1
                self.check("NotFree", stock, claims, loans, 0, amounts)
                alone = [0, 0, 0]
                alone[kind] = amounts[kind]
                self.check("NotFree", stock, claims, loans, 0, alone)

    def test_free_is_the_stock_less_the_loans_of_all(self):
        claims = [[6], [3], [3]]
        self.check([[2], [2], [2]], [6], [[2], [3], [3]], [[0], [2], [2]], 0, [2])
        self.check("NotFree", [6], claims, [[0], [2], [2]], 0, [3])
        self.check("NotFree", [6], claims, [[2], [2], [2]], 0, [1])

    def test_free_though_it_would_be_a_knot(self):
        self.check("Knotted", [2], [[2], [2]], [[1], [0]], 1, [1])
        self.check([[2], [0]], [2], [[2], [2]], [[1], [0]], 0, [1])
        self.check("Knotted", [1, 1], [[1, 1], [1, 1]], [[1, 0], [0, 0]], 1, [0, 1])
        self.check([[1, 0], [0, 0]], [1, 1], [[1, 1], [1, 1]], [[0, 0], [0, 0]], 0, [1, 0])
        self.check("Knotted", [10], [[8], [7], [6]], [[3], [2], [1]], 2, [3])
        self.check([[3], [2], [2]], [10], [[7], [6], [5]], [[3], [2], [1]], 2, [1])

    def test_a_knot_of_other_workers_refuses_too(self):
        claims = [[1, 0], [1, 2], [1, 2]]
        loans = [[0, 0], [0, 1], [0, 1]]
        self.check("Knotted", [2, 2], claims, loans, 0, [1, 0])
        self.check([[1, 0], [0, 1], [0, 0]], [2, 2], claims, [[0, 0], [0, 1], [0, 0]], 0, [1, 0])

    def test_an_ask_of_nought(self):
        self.check([[0]], [0], [[0]], [[0]], 0, [0])
        self.check([[1, 0], [0, 2]], [3, 3], [[2, 2], [2, 2]], [[1, 0], [0, 2]], 1, [0, 0])
        self.check([[1, 1], [2, 2]], [3, 3], [[2, 2], [2, 2]], [[1, 1], [2, 2]], 1, [0, 0])
        self.check([[1], [1]], [2], [[1], [2]], [[1], [1]], 0, [0])

    def test_an_ask_of_nought_where_there_is_a_knot_already(self):
        self.check("Knotted", [2], [[2], [2]], [[1], [1]], 0, [0])
        self.check("Knotted", [2], [[2], [2]], [[1], [1]], 1, [0])
        self.check("Knotted", [2], [[0], [2], [2]], [[0], [1], [1]], 0, [0])
        self.check("Knotted", [1], [[2]], [[0]], 0, [0])

    def test_any_ask_where_there_is_a_knot_already(self):
        claims = [[3, 2], [3, 2], [1, 1]]
        loans = [[1, 1], [1, 1], [0, 0]]
        for worker in range(3):
            for amounts in ([1, 0], [0, 0]):
                with self.subTest(worker=worker, amounts=amounts):
                    self.check("Knotted", [3, 2], claims, loans, worker, amounts)

    def test_a_claim_of_more_than_the_stock(self):
        self.check("Knotted", [2], [[3]], [[0]], 0, [1])
        self.check("NotFree", [2], [[3]], [[0]], 0, [3])
        self.check("OverClaim", [2], [[3]], [[0]], 0, [4])
        self.check("Knotted", [2, 2], [[1, 1], [0, 3]], [[0, 0], [0, 0]], 0, [1, 1])
        self.check("Knotted", [2, 2], [[1, 1], [3, 0]], [[0, 0], [0, 0]], 0, [0, 0])

    def test_great_numbers(self):
        for great in GREAT:
            with self.subTest(digits=len(str(great))):
                self.check([[great]], [great], [[great]], [[0]], 0, [great])
                self.check([[great, 1]], [great, 1], [[great, 1]], [[1, 0]], 0, [great - 1, 1])
                self.check("OverClaim", [2 * great], [[great]], [[0]], 0, [great + 1])
                self.check("OverClaim", [2 * great], [[great]], [[1]], 0, [great])
                self.check("NotFree", [great], [[2 * great]], [[0]], 0, [great + 1])
                self.check("NotFree", [great, 3], [[great, 2], [1, 1]], [[0, 0], [1, 1]], 0, [great, 1])
                self.check("Knotted", [2 * great], [[2 * great], [2 * great]], [[1], [0]], 1, [great])
                self.check([[1], [great]], [2 * great], [[2 * great], [2 * great - 1]], [[1], [0]], 1, [great])
                self.check("NoAmount", [great], [[great]], [[0]], 0, [-great])
                self.check("NoWorker", [great], [[great]], [[0]], great, [1])

    def test_no_kind(self):
        self.check([[], []], [], [[], []], [[], []], 1, [])
        self.check("NoWorker", [], [[], []], [[], []], 2, [])

    def test_one_list_handed_in_for_several_workers(self):
        loan = [1, 0]
        claim = [2, 1]
        self.check([[1, 0], [2, 1], [1, 0]], [6, 3], [claim] * 3, [loan] * 3, 1, [1, 1])
        self.check([[2, 0], [1, 0], [1, 0]], [6, 3], [claim] * 3, [loan] * 3, 0, loan)
        self.check([[1, 1]], [1, 1], [[1, 1]], [[0, 0]], 0, [1, 1])
        same = [2, 2]
        self.check([[2, 2]], same, [same], [[0, 0]], 0, same)

    def test_the_answer_can_be_changed(self):
        stock = [6, 3]
        claims = [[2, 1], [2, 1]]
        loans = [[1, 0], [0, 0]]
        amounts = [1, 1]
        answer = lent(stock, claims, loans, 1, amounts)
        for loan in answer:
            loan[0] = 70
            loan.append(80)
        answer.append([90])
        self.assertEqual((stock, amounts), ([6, 3], [1, 1]))
        self.assertEqual((claims, loans), ([[2, 1], [2, 1]], [[1, 0], [0, 0]]))


class LentRefusalsAloneTest(LendingCheck):
    def check(self, held, yard, worker, amounts):
        self.assertEqual(yard_checks.refusals_of_ask(*yard, worker, amounts), held)
        self.as_told(held[0], lent, *yard, worker, amounts)

    def test_each_refusal_alone(self):
        yard = ([4, 4], [[3, 3], [2, 4]], [[1, 1], [0, 0]])
        self.check(["NoWorker"], yard, 2, [1, 1])
        self.check(["NoWorker"], yard, -1, [1, 1])
        self.check(["NoAmount"], yard, 0, [-1, 1])
        self.check(["NoAmount"], yard, 0, [1, -1])
        self.check(["OverClaim"], yard, 0, [3, 0])
        self.check(["OverClaim"], yard, 0, [0, 3])
        self.check(["Knotted"], yard, 1, [0, 3])

    def test_not_free_would_always_be_a_knot_too(self):
        yard = ([4, 4], [[3, 3], [2, 4]], [[1, 1], [0, 0]])
        self.check(["NotFree", "Knotted"], yard, 1, [0, 4])
        self.check(["NotFree", "Knotted"], yard, 1, [2, 4])


class LentRefusalsTogetherTest(LendingCheck):
    """Refusals that hold together: the one named first in point 8 is told."""

    FREE_YARD = ([4, 4], [[3, 3], [3, 3]], [[1, 1], [0, 0]])
    KNOT_YARD = ([3, 3], [[3, 3], [3, 3]], [[1, 1], [1, 1]])

    def check(self, names, yard, worker, amounts):
        """Of these names, all of which hold there, the first is told."""
        held = yard_checks.refusals_of_ask(*yard, worker, amounts)
        self.assertEqual([name for name in held if name in names], names)
        self.as_told(names[0], lent, *yard, worker, amounts)

    def test_no_worker_and_another(self):
        for worker in (-2, -1, 2, 10 ** 12):
            with self.subTest(worker=worker):
                self.check(["NoWorker", "NoAmount"], self.FREE_YARD, worker, [-1, 0])
                self.check(["NoWorker", "NotFree"], self.FREE_YARD, worker, [0, 4])
                self.check(["NoWorker", "NotFree"], self.FREE_YARD, worker, [9, 9])
                self.check(["NoWorker", "Knotted"], self.KNOT_YARD, worker, [0, 0])
                self.check(["NoWorker", "NotFree", "Knotted"], self.KNOT_YARD, worker, [2, 0])
                self.check(["NoWorker", "NoAmount", "NotFree", "Knotted"], self.KNOT_YARD, worker, [9, -1])

    def test_no_worker_and_more_than_any_claim(self):
        for worker in (-2, -1, 2, 10 ** 12):
            with self.subTest(worker=worker):
                self.check(["NoWorker"], ([9], [[1], [1]], [[0], [1]]), worker, [2])

    def test_no_amount_and_over_claim(self):
        self.check(["NoAmount", "OverClaim"], self.FREE_YARD, 0, [-1, 3])
        self.check(["NoAmount", "OverClaim"], self.FREE_YARD, 0, [3, -1])
        self.check(["NoAmount", "OverClaim"], self.FREE_YARD, 1, [-1, 9])

    def test_no_amount_and_not_free(self):
        yard = ([4, 4], [[4, 4], [3, 3]], [[0, 0], [3, 3]])
        self.check(["NoAmount", "NotFree"], yard, 0, [-1, 2])
        self.check(["NoAmount", "NotFree"], yard, 0, [2, -1])

    def test_no_amount_and_knotted(self):
        self.check(["NoAmount", "Knotted"], self.KNOT_YARD, 0, [-1, 0])
        self.check(["NoAmount", "Knotted"], self.KNOT_YARD, 0, [0, -1])
        self.check(["NoAmount", "Knotted"], self.KNOT_YARD, 1, [-1, 1])
        self.check(["NoAmount", "Knotted"], ([2, 2], [[2, 2], [2, 2]], [[1, 1], [0, 0]]), 1, [1, -1])

    def test_over_claim_and_not_free(self):
        yard = ([4, 4], [[4, 4], [2, 2]], [[3, 3], [0, 0]])
        for amounts in ([3, 0], [0, 3], [2, 3], [3, 2]):
            with self.subTest(amounts=amounts):
                self.check(["OverClaim", "NotFree"], yard, 1, amounts)
        self.check(["OverClaim", "NotFree"], ([4, 4], [[4, 0], [3, 1]], [[3, 0], [0, 0]]), 1, [2, 2])
        self.check(["OverClaim", "NotFree"], ([4, 4], [[0, 4], [1, 3]], [[0, 3], [0, 0]]), 1, [2, 2])

    def test_over_claim_and_knotted(self):
        self.check(["OverClaim", "Knotted"], ([3, 3], [[1, 3], [3, 3]], [[1, 1], [1, 1]]), 0, [1, 0])
        self.check(["OverClaim", "Knotted"], ([3, 3], [[3, 1], [3, 4]], [[1, 1], [1, 1]]), 0, [0, 1])
        self.check(["OverClaim", "Knotted"], ([9], [[2], [10]], [[1], [0]]), 0, [2])

    def test_not_free_and_knotted(self):
        self.check(["NotFree", "Knotted"], self.KNOT_YARD, 0, [2, 0])
        self.check(["NotFree", "Knotted"], self.KNOT_YARD, 1, [0, 2])
        self.check(["NotFree", "Knotted"], self.KNOT_YARD, 1, [1, 2])
        self.check(["NotFree", "Knotted"], ([1], [[2]], [[0]]), 0, [2])

    def test_all_together(self):
        self.check(["NoAmount", "OverClaim", "NotFree", "Knotted"], self.KNOT_YARD, 1, [-1, 9])
        self.check(["OverClaim", "NotFree", "Knotted"], self.KNOT_YARD, 1, [0, 9])
        self.check(["OverClaim", "NotFree", "Knotted"], self.KNOT_YARD, 1, [9, 0])


class ManyAsksTest(LendingCheck):
    def all_asks(self, workers, kinds, most_stock, most_claim, most_amount):
        outcomes = {}
        for stock, claims, loans in yard_checks.small_yards(workers, kinds, most_stock, most_claim):
            for worker in range(-1, workers + 1):
                for amounts in itertools.product(range(-1, most_amount + 1), repeat=kinds):
                    handed = (stock, claims, loans, worker, list(amounts))
                    outcome = yard_checks.asked(*handed)
                    self.as_told(outcome, lent, *handed)
                    name = outcome if isinstance(outcome, str) else "lent"
                    outcomes[name] = outcomes.get(name, 0) + 1
        return sorted(outcomes)

    def test_all_asks_in_small_yards(self):
        every = ["Knotted", "NoAmount", "NoWorker", "NotFree", "OverClaim", "lent"]
        self.assertEqual(self.all_asks(0, 1, 2, 0, 2), ["NoWorker"])
        self.assertEqual(self.all_asks(1, 1, 4, 5, 6), every)
        self.assertEqual(self.all_asks(2, 1, 3, 3, 4), every)
        self.assertEqual(self.all_asks(3, 1, 2, 2, 2), every)
        self.assertEqual(self.all_asks(1, 2, 2, 2, 3), every)
        self.assertEqual(self.all_asks(2, 2, 1, 2, 2), every)

    def asks_in_a_chain(self, order, kinds, step):
        """Nothing can be spared there: the first worker needs all that is free, `step` of each kind."""
        yard = yard_checks.chain(order, kinds, step, step)
        stock, claims, loans = yard
        first = order[0]
        full = [step] * kinds
        self.as_told(yard_checks.loans_with(loans, first, claims[first]), lent, *yard, first, full)
        for kind in (0, kinds // 2, kinds - 1):
            one = [1 if number == kind else 0 for number in range(kinds)]
            loan = [held + number for held, number in zip(loans[first], one)]
            self.as_told(yard_checks.loans_with(loans, first, loan), lent, *yard, first, one)
            for worker in (order[1], order[len(order) // 2], order[-1]):
                self.as_told("Knotted", lent, *yard, worker, one)
            over = [step + number for number in one]
            self.as_told("OverClaim", lent, *yard, first, over)
            # The last one may hold more than is free only of the kinds that one ahead of them holds.
            if kind < len(order) - 1:
                self.as_told("NotFree", lent, *yard, order[-1], over)
            below = [step - (step + 1) * number for number in one]
            self.as_told("NoAmount", lent, *yard, first, below)
        for worker in (-1, len(order)):
            self.as_told("NoWorker", lent, *yard, worker, full)

    def test_asks_in_great_yards(self):
        for workers, kinds in ((100, 100), (100, 2), (2, 100), (120, 115)):
            for step in (3, 10 ** 12, 10 ** 40):
                with self.subTest(workers=workers, kinds=kinds, digits=len(str(step))):
                    self.asks_in_a_chain(yard_checks.shuffled(range(workers), workers), kinds, step)


class ReturnedTest(LendingCheck):
    def check(self, outcome, *handed):
        self.as_told(outcome, returned, *handed)

    def test_given_back(self):
        self.check([[1]], [[3]], 0, [2])
        self.check([[1, 1], [0, 4]], [[2, 3], [0, 4]], 0, [1, 2])
        self.check([[2, 3], [0, 3]], [[2, 3], [0, 4]], 1, [0, 1])

    def test_only_the_giving_workers_loan_is_changed(self):
        for worker in range(3):
            with self.subTest(worker=worker):
                behind = [[2, 3], [4, 5], [6, 7]]
                behind[worker] = [behind[worker][0] - 1, behind[worker][1] - 2]
                self.check(behind, [[2, 3], [4, 5], [6, 7]], worker, [1, 2])

    def test_no_worker_of_that_number(self):
        for worker in (-1, -2, -3, 2, 3, 99, 10 ** 12, -10 ** 12, 10 ** 60, -10 ** 60):
            for amounts in ([0, 0], [1, 0], [1, 1]):
                with self.subTest(worker=worker, amounts=amounts):
                    self.check("NoWorker", [[1, 1], [2, 2]], worker, amounts)

    def test_no_worker_at_all(self):
        for worker in (-1, 0, 1, 10 ** 12):
            for amounts in ([0], [1], [-1], [0, 0]):
                with self.subTest(worker=worker, amounts=amounts):
                    self.check("NoWorker", [], worker, amounts)

    def test_an_amount_below_nought(self):
        for kind in range(3):
            for number in (-1, -2, -10 ** 60):
                for others in (0, 1):
                    with self.subTest(kind=kind, number=number, others=others):
                        amounts = [others] * 3
                        amounts[kind] = number
                        self.check("NoAmount", [[2, 2, 2], [1, 1, 1]], 1, amounts)
        self.check("NoAmount", [[1]], 0, [-1])

    def test_all_of_the_loan_and_one_more_in_one_kind(self):
        loans = [[9, 9, 9], [3, 0, 5]]
        self.check([[9, 9, 9], [0, 0, 0]], loans, 1, [3, 0, 5])
        for kind in range(3):
            with self.subTest(kind=kind):
                amounts = [3, 0, 5]
                amounts[kind] += 1
                self.check("NotLent", loans, 1, amounts)
                alone = [0, 0, 0]
                alone[kind] = amounts[kind]
                self.check("NotLent", loans, 1, alone)

    def test_the_loan_is_the_giving_workers_own(self):
        self.check("NotLent", [[0], [5]], 0, [1])
        self.check([[0], [4]], [[0], [5]], 1, [1])

    def test_nought_of_every_kind(self):
        self.check([[0]], [[0]], 0, [0])
        self.check([[1, 2], [0, 3]], [[1, 2], [0, 3]], 0, [0, 0])
        self.check([[1, 2], [0, 3]], [[1, 2], [0, 3]], 1, [0, 0])

    def test_two_refusals_together(self):
        loans = [[1, 2], [3, 0]]
        for worker in (-2, -1, 2):
            self.check("NoWorker", loans, worker, [-1, 0])
            self.check("NoWorker", loans, worker, [9, 9])
            self.check("NoWorker", loans, worker, [9, -1])
        self.check("NoAmount", loans, 0, [-1, 3])
        self.check("NoAmount", loans, 0, [2, -1])
        self.check("NoAmount", loans, 1, [4, -1])

    def test_more_than_a_hundred_kinds(self):
        loan = [kind % 5 + 1 for kind in range(301)]
        self.check([[0] * 301], [loan], 0, list(loan))
        self.check([[number - 1 for number in loan]], [loan], 0, [1] * 301)
        for kind in (0, 99, 100, 150, 300):
            with self.subTest(kind=kind):
                amounts = list(loan)
                amounts[kind] += 1
                self.check("NotLent", [loan], 0, amounts)
                amounts[kind] = -1
                self.check("NoAmount", [loan], 0, amounts)

    def test_more_than_a_hundred_workers(self):
        loans = [[worker, 1] for worker in range(1001)]
        for worker in (0, 1, 99, 100, 500, 1000):
            with self.subTest(worker=worker):
                self.check(yard_checks.loans_with(loans, worker, [0, 1]), loans, worker, [worker, 0])
                self.check("NotLent", loans, worker, [worker + 1, 0])
        for worker in (-1001, -1, 1001):
            self.check("NoWorker", loans, worker, [0, 0])

    def test_more_than_a_hundred_kinds_and_workers(self):
        loans = [[worker + kind for kind in range(150)] for worker in range(160)]
        self.check(yard_checks.loans_with(loans, 130, list(range(150))), loans, 130, [130] * 150)

    def test_great_numbers(self):
        for great in GREAT:
            with self.subTest(digits=len(str(great))):
                self.check([[0, 1]], [[great, 1]], 0, [great, 0])
                self.check([[1, great]], [[great, great]], 0, [great - 1, 0])
                self.check("NotLent", [[great, 1]], 0, [great + 1, 0])
                self.check("NotLent", [[great, great]], 0, [0, great + 1])
                self.check("NoAmount", [[great, 1]], 0, [great, -great])
                self.check("NoWorker", [[great, 1]], great, [1, 1])

    def test_no_kind(self):
        self.check([[], []], [[], []], 1, [])
        self.check("NoWorker", [[], []], 2, [])

    def test_one_list_handed_in_for_several_workers(self):
        loan = [2, 1]
        self.check([[2, 1], [0, 0], [2, 1]], [loan] * 3, 1, loan)
        self.check([[1, 1], [2, 1], [2, 1]], [loan] * 3, 0, [1, 0])

    def test_the_answer_can_be_changed(self):
        loans = [[2, 1], [3, 3]]
        amounts = [1, 1]
        answer = returned(loans, 1, amounts)
        for loan in answer:
            loan[0] = 70
            loan.append(80)
        answer.append([90])
        self.assertEqual((loans, amounts), ([[2, 1], [3, 3]], [1, 1]))

    def test_all_small_givings_back(self):
        for workers, kinds in ((0, 1), (1, 1), (2, 1), (1, 2), (2, 2), (3, 1)):
            rows = [list(row) for row in itertools.product(range(3), repeat=kinds)]
            for loans in itertools.product(rows, repeat=workers):
                for worker in range(-1, workers + 1):
                    for amounts in itertools.product(range(-1, 4), repeat=kinds):
                        handed = ([list(loan) for loan in loans], worker, list(amounts))
                        self.as_told(yard_checks.given(*handed), returned, *handed)

    def test_what_was_lent_can_be_given_back(self):
        stock = [9, 9]
        claims = [[3, 3], [4, 4]]
        loans = [[1, 0], [2, 2]]
        self.assertEqual(returned(lent(stock, claims, loans, 1, [1, 2]), 1, [1, 2]), loans)


class RefusalTest(unittest.TestCase):
    def test_each_refusal_is_a_loan_error(self):
        yard = ([2], [[2], [2]], [[1], [0]])
        for worker, amounts in ((2, [0]), (0, [-1]), (0, [2]), (1, [2]), (1, [1])):
            with self.subTest(worker=worker, amounts=amounts):
                with self.assertRaises(LoanError):
                    lent(*yard, worker, amounts)
        for worker, amounts in ((2, [0]), (0, [-1]), (0, [2])):
            with self.subTest(worker=worker, amounts=amounts):
                with self.assertRaises(LoanError):
                    returned([[1], [0]], worker, amounts)


if __name__ == "__main__":
    unittest.main()

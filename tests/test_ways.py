import itertools
import random
import unittest

import yard_checks
from lendyard.ways import way_out

GREAT = (10 ** 12, 10 ** 60, 10 ** 400)


class WayCheck(yard_checks.YardTest):
    def check(self, stock, claims, loans):
        answer = self.untouched(way_out, stock, claims, loans)
        self.assertIs(type(answer), tuple)
        self.assertEqual(len(answer), 2)
        word, row = answer
        self.assertIs(type(word), str)
        self.whole(row)
        self.assertIn(word, ("order", "knot"))
        holds = {"order": yard_checks.is_order, "knot": yard_checks.is_knot}[word]
        self.assertTrue(holds(stock, claims, loans, row), f"{(stock, claims, loans, answer)!r:.1000}")
        return answer

    def order(self, stock, claims, loans, only=None):
        """There is an order; `only` is one beside which there is no other."""
        word, told = self.check(stock, claims, loans)
        self.assertEqual(word, "order")
        if only is not None:
            # All rows of many workers can't be tried one by one; their chains have one order as they are made.
            if len(only) < 6:
                self.assertEqual(yard_checks.all_orders(stock, claims, loans), [only])
            self.same(told, only)

    def knot(self, stock, claims, loans, only=None):
        """There is a knot; `only` is one beside which there is no other."""
        word, told = self.check(stock, claims, loans)
        self.assertEqual(word, "knot")
        if only is not None:
            self.assertEqual(yard_checks.all_knots(stock, claims, loans), [only])
            self.same(told, only)


class WayOutTest(WayCheck):
    def test_no_worker(self):
        self.assertEqual(self.check([3], [], []), ("order", []))
        self.assertEqual(self.check([0, 0], [], []), ("order", []))

    def test_one_worker_who_can_finish(self):
        self.order([3], [[3]], [[0]], [0])
        self.order([3], [[3]], [[1]], [0])
        self.order([3], [[3]], [[3]], [0])
        self.order([3, 2], [[1, 2]], [[0, 1]], [0])

    def test_one_worker_who_can_not_finish(self):
        self.knot([3], [[4]], [[0]], [0])
        self.knot([3], [[4]], [[3]], [0])
        self.knot([3, 2], [[3, 3]], [[1, 1]], [0])
        self.knot([3, 2], [[4, 2]], [[1, 1]], [0])

    def test_several_workers_who_all_can_finish_at_once(self):
        self.order([5], [[2], [3], [1]], [[1], [1], [0]])
        self.order([5, 5], [[2, 2], [3, 1], [1, 0]], [[1, 1], [1, 1], [0, 0]])

    def test_several_workers_of_whom_none_can_finish(self):
        self.knot([2], [[2], [2]], [[1], [1]], [0, 1])
        self.knot([1, 1], [[1, 1], [1, 1]], [[1, 0], [0, 1]], [0, 1])
        self.knot([3], [[2], [2], [2]], [[1], [1], [1]], [0, 1, 2])

    def test_several_workers_of_whom_some_can_finish(self):
        self.knot([3, 3], [[1, 0], [3, 3], [3, 3]], [[1, 0], [1, 2], [1, 1]], [1, 2])
        self.knot([3, 3], [[3, 3], [1, 0], [3, 3]], [[1, 2], [1, 0], [1, 1]], [0, 2])
        self.knot([3, 3], [[3, 3], [3, 3], [1, 0]], [[1, 2], [1, 1], [1, 0]], [0, 1])

    def test_one_of_several_can_not_finish(self):
        self.knot([4], [[1], [5], [2]], [[1], [1], [1]], [1])
        self.knot([4], [[5], [1], [2]], [[1], [1], [1]], [0])
        self.knot([4], [[1], [2], [5]], [[1], [1], [1]], [2])

    def test_a_worker_who_can_finish_only_behind_others(self):
        self.order([2], [[2], [1]], [[1], [1]], [1, 0])
        self.order([2], [[1], [2]], [[1], [1]], [0, 1])
        self.order([3], [[3], [2], [1]], [[1], [1], [1]], [2, 1, 0])
        self.order([1, 1], [[1, 1], [1, 0]], [[0, 1], [1, 0]], [1, 0])

    def test_a_worker_behind_two_others_who_both_must_be_ahead(self):
        stock = [1, 1, 1]
        loans = [[0, 0, 1], [1, 0, 0], [0, 1, 0]]
        self.order(stock, [[1, 1, 1], [1, 0, 0], [0, 1, 0]], loans)
        self.knot(stock, [[1, 1, 1], [1, 0, 1], [0, 1, 0]], loans, [0, 1])

    def test_a_worker_is_not_helped_by_their_own_loan_twice(self):
        self.knot([2], [[3]], [[1]], [0])
        self.knot([2], [[4]], [[2]], [0])

    def test_the_loans_of_a_knot_do_not_help_its_workers(self):
        self.knot([4], [[4], [4]], [[2], [2]], [0, 1])

    def test_a_claim_of_more_than_the_stock(self):
        self.knot([2], [[3], [1]], [[0], [0]], [0])
        self.knot([2], [[1], [3]], [[1], [1]], [1])
        self.knot([2, 9], [[1, 10], [1, 1]], [[0, 0], [0, 0]], [0])
        self.knot([0], [[1]], [[0]], [0])

    def test_nought_of_a_kind(self):
        self.order([0], [[0]], [[0]], [0])
        self.order([0, 0], [[0, 0], [0, 0]], [[0, 0], [0, 0]])
        self.order([0, 2], [[0, 2], [0, 2]], [[0, 1], [0, 0]])
        self.knot([0, 2], [[1, 0], [0, 2]], [[0, 0], [0, 0]], [0])

    def test_a_worker_with_the_whole_claim_can_finish_with_nothing_free(self):
        self.order([2, 1], [[1, 1], [1, 0]], [[1, 1], [1, 0]])

    def test_rests_as_much_as_is_free_and_one_more_in_one_kind_alone(self):
        for free in ([0, 0, 0], [2, 2, 2], [5, 0, 7], [1, 4, 2, 9, 3]):
            loan = [kind + 1 for kind in range(len(free))]
            stock = [number + held for number, held in zip(free, loan)]
            self.order(stock, [list(stock)], [list(loan)], [0])
            for kind in range(len(free)):
                with self.subTest(free=free, kind=kind):
                    claim = list(stock)
                    claim[kind] += 1
                    self.knot(stock, [claim], [loan], [0])
                    scarce = [min(held, 1) for held in loan]
                    scarce[kind] = stock[kind] + 1
                    held = [0] * len(free)
                    self.knot(stock, [scarce], [held], [0])

    def test_rests_as_much_as_is_free_behind_another_worker(self):
        for kind in range(3):
            with self.subTest(kind=kind):
                stock = [3, 4, 5]
                loans = [[1, 1, 1], [1, 2, 3]]
                claims = [[3, 4, 5], [1, 2, 3]]
                self.order(stock, claims, loans, [1, 0])
                claims[0][kind] += 1
                self.knot(stock, claims, loans, [0])
                claims[0][kind] -= 1
                claims[1][kind] += 2
                self.knot(stock, claims, loans, [0, 1])

    def test_great_numbers(self):
        for great in GREAT:
            with self.subTest(digits=len(str(great))):
                self.order([great], [[great]], [[0]], [0])
                self.order([great], [[great]], [[1]], [0])
                self.knot([great], [[great + 1]], [[great]], [0])
                self.knot([great], [[great + 1]], [[0]], [0])
                self.order([2 * great, 1], [[2 * great, 0], [great, 1]], [[great, 0], [great, 0]], [1, 0])
                self.knot([2 * great, 1], [[2 * great, 0], [great + 1, 1]], [[great, 0], [great, 0]], [0, 1])
                self.knot([2 * great, 1], [[2 * great + 1, 0], [great, 1]], [[great, 0], [great, 0]], [0])

    def test_no_kind(self):
        self.order([], [[], []], [[], []])

    def test_one_list_handed_in_for_several_workers(self):
        claim = [2, 1]
        loan = [1, 0]
        self.order([4, 1], [claim, claim, claim], [loan, loan, loan])
        self.knot([3, 1], [claim, claim, claim], [loan, loan, loan], [0, 1, 2])
        self.order(claim, [claim], [claim], [0])

    def test_the_answer_can_be_changed(self):
        for stock, word in (([2], "order"), ([1], "knot")):
            claims = [[2], [2]]
            loans = [[1], [0]]
            told, row = way_out(stock, claims, loans)
            self.assertEqual(told, word)
            row.append(7)
            row[0] = 8
            self.assertEqual((claims, loans), ([[2], [2]], [[1], [0]]))
            self.check(stock, claims, loans)


class ManyYardsTest(WayCheck):
    def all_of(self, workers, kinds, most_stock, most_claim, brute=True):
        words = {"order": 0, "knot": 0}
        for stock, claims, loans in yard_checks.small_yards(workers, kinds, most_stock, most_claim):
            word, row = self.check(stock, claims, loans)
            words[word] += 1
            if brute:
                orders = yard_checks.all_orders(stock, claims, loans)
                knots = yard_checks.all_knots(stock, claims, loans)
                self.assertEqual((len(orders) > 0, len(knots) > 0), (word == "order", word == "knot"))
                self.assertIn(row, orders + knots)
        return words

    def test_all_small_yards_of_one_kind(self):
        self.all_of(0, 1, 3, 0)
        for workers, most_stock, most_claim in ((1, 5, 6), (2, 4, 5), (3, 3, 3)):
            with self.subTest(workers=workers):
                words = self.all_of(workers, 1, most_stock, most_claim)
                self.assertGreater(min(words.values()), 0)

    def test_all_small_yards_of_two_kinds(self):
        for workers, most_stock, most_claim in ((1, 3, 3), (2, 2, 2)):
            with self.subTest(workers=workers):
                words = self.all_of(workers, 2, most_stock, most_claim)
                self.assertGreater(min(words.values()), 0)

    def test_all_small_yards_of_three_workers_and_two_kinds(self):
        words = self.all_of(3, 2, 2, 1)
        self.assertGreater(min(words.values()), 0)

    def test_more_small_yards_of_three_workers_and_two_kinds(self):
        words = self.all_of(3, 2, 2, 2, brute=False)
        self.assertGreater(min(words.values()), 0)

    def test_all_small_yards_of_two_workers_and_three_kinds(self):
        words = self.all_of(2, 3, 1, 1)
        self.assertGreater(min(words.values()), 0)

    def test_all_small_yards_of_four_workers_and_one_kind(self):
        words = self.all_of(4, 1, 2, 2)
        self.assertGreater(min(words.values()), 0)

    def test_yards_of_all_sizes(self):
        chance = random.Random(11)
        words = {"order": 0, "knot": 0}
        for turn in range(3000):
            workers = chance.randint(0, 9)
            kinds = chance.randint(1, 5)
            rest = chance.randint(0, 6) * max(1, workers) // 2
            yard = yard_checks.chance_yard(chance, workers, kinds, chance.randint(0, 6), rest)
            words[self.check(*yard)[0]] += 1
        self.assertGreater(min(words.values()), 300)

    def test_great_yards(self):
        chance = random.Random(12)
        words = {"order": 0, "knot": 0}
        for workers, kinds in ((100, 100), (100, 1), (1, 100), (100, 3), (3, 100), (120, 130)):
            for rest in (10, 60, 200, 10 ** 15):
                for turn in range(4):
                    most = chance.choice((1, 20, 10 ** 12, 10 ** 30))
                    with self.subTest(workers=workers, kinds=kinds, rest=rest, most=most):
                        words[self.check(*yard_checks.chance_yard(chance, workers, kinds, most, rest))[0]] += 1
        self.assertGreater(min(words.values()), 10)


class ChainTest(WayCheck):
    def broken_chain(self, order, kinds, place, kind, step):
        stock, claims, loans = yard_checks.chain(order, kinds, 1, step)
        claims[order[place]][kind] += 1
        self.knot(stock, claims, loans)

    def test_every_order_of_few_workers(self):
        for workers in range(6):
            for order in itertools.permutations(range(workers)):
                with self.subTest(order=order):
                    self.order(*yard_checks.chain(order, 2, 0, 1), list(order))

    def test_every_break_of_a_short_chain(self):
        for order in ((0, 1, 2, 3), (3, 2, 1, 0), (2, 0, 3, 1)):
            for place in range(4):
                for kind in range(3):
                    with self.subTest(order=order, place=place, kind=kind):
                        self.broken_chain(order, 3, place, kind, 1)

    def test_long_chains(self):
        for workers, kinds in ((100, 100), (100, 1), (100, 7), (125, 110)):
            for order in (list(range(workers)), list(range(workers))[::-1], yard_checks.shuffled(range(workers), 5)):
                for step in (1, 10 ** 12, 10 ** 40):
                    with self.subTest(workers=workers, kinds=kinds, step=len(str(step)), first=order[0]):
                        self.order(*yard_checks.chain(order, kinds, 0, step), order)

    def test_breaks_of_a_long_chain(self):
        order = yard_checks.shuffled(range(100), 6)
        for place in (0, 1, 49, 98, 99):
            for kind in (0, 50, 99):
                with self.subTest(place=place, kind=kind):
                    self.broken_chain(order, 100, place, kind, 1)


class ChecksTest(unittest.TestCase):
    """The tests' own checks tell what is no order and no knot."""

    def test_what_is_no_order(self):
        yard = ([3], [[3], [2], [1]], [[1], [1], [1]])
        self.assertTrue(yard_checks.is_order(*yard, [2, 1, 0]))
        for row in ([], [2, 1], [2, 1, 0, 0], [2, 1, 1], [2, 1, 3], [2, 0, 1], [1, 2, 0], [0, 1, 2], [-1, 1, 0]):
            with self.subTest(row=row):
                self.assertFalse(yard_checks.is_order(*yard, row))

    def test_what_is_no_knot(self):
        yard = ([3, 3], [[3, 3], [1, 0], [3, 3]], [[1, 2], [1, 0], [1, 1]])
        self.assertTrue(yard_checks.is_knot(*yard, [0, 2]))
        for row in ([], [0], [1], [2], [2, 0], [0, 0, 2], [0, 2, 2], [0, 1, 2], [1, 2], [0, 2, 3], [-1, 0]):
            with self.subTest(row=row):
                self.assertFalse(yard_checks.is_knot(*yard, row))

    def test_orders_and_knots_without_a_worker(self):
        self.assertTrue(yard_checks.is_order([1], [], [], []))
        self.assertFalse(yard_checks.is_knot([1], [], [], []))


if __name__ == "__main__":
    unittest.main()

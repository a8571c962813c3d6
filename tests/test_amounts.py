import copy
import itertools
import unittest

from lendyard.amounts import copies, fits, free_of, less, more

HUGE = 10 ** 60


class FreeOfTest(unittest.TestCase):
    def check(self, stock, loans, free):
        stock_ahead = copy.deepcopy(stock)
        loans_ahead = copy.deepcopy(loans)
        answer = free_of(stock, loans)
        self.assertEqual(answer, free)
        self.assertIs(type(answer), list)
        self.assertTrue(all(type(number) is int for number in answer))
        self.assertEqual(stock, stock_ahead)
        self.assertEqual(loans, loans_ahead)

    def test_no_worker(self):
        self.check([4], [], [4])
        self.check([4, 0, 7], [], [4, 0, 7])

    def test_one_worker(self):
        self.check([4], [[3]], [1])
        self.check([4, 2, 7], [[1, 0, 5]], [3, 2, 2])

    def test_several_workers(self):
        self.check([9], [[3], [0], [2]], [4])
        self.check([10, 20, 30], [[1, 2, 3], [4, 5, 6], [0, 0, 7]], [5, 13, 14])

    def test_worker_without_a_loan(self):
        self.check([3, 1], [[0, 0]], [3, 1])

    def test_nothing_free(self):
        self.check([0], [], [0])
        self.check([0, 0], [[0, 0], [0, 0]], [0, 0])
        self.check([5], [[5]], [0])
        self.check([3, 4], [[1, 4], [2, 0]], [0, 0])

    def test_nothing_free_of_one_kind_alone(self):
        self.check([3, 4, 5], [[1, 2, 1], [1, 2, 1]], [1, 0, 3])

    def test_more_than_a_hundred_kinds(self):
        kinds = range(257)
        stock = [3 * kind + 5 for kind in kinds]
        loans = [[kind for kind in kinds], [kind + 2 for kind in kinds]]
        self.check(stock, loans, [kind + 3 for kind in kinds])

    def test_more_than_a_hundred_workers(self):
        loans = [[worker, 1] for worker in range(301)]
        self.check([301 * 150 + 8, 400], loans, [8, 99])

    def test_more_than_a_hundred_kinds_and_workers(self):
        loans = [[worker + kind for kind in range(130)] for worker in range(140)]
        stock = [140 * kind + 139 * 70 + kind % 3 for kind in range(130)]
        self.check(stock, loans, [kind % 3 for kind in range(130)])

    def test_many_workers(self):
        self.check([5000, 1], [[1, 0]] * 4000, [1000, 1])

    def test_great_numbers(self):
        self.check([10 ** 12, 10 ** 12 + 1], [[10 ** 12 - 1, 1], [0, 1]], [1, 10 ** 12 - 1])
        self.check([HUGE + 3, 2 * HUGE], [[HUGE, 1], [1, HUGE]], [2, HUGE - 1])

    def test_the_answer_is_a_list_of_its_own(self):
        for loans in ([], [[0, 0]], [[1, 2]], [[1, 1], [0, 1]]):
            with self.subTest(loans=loans):
                stock = [3, 4]
                loans_ahead = copy.deepcopy(loans)
                answer = free_of(stock, loans)
                answer[0] = 77
                answer.append(88)
                self.assertEqual(stock, [3, 4])
                self.assertEqual(loans, loans_ahead)

    def test_the_same_twice(self):
        stock = [3, 4]
        loans = [[1, 0], [1, 3]]
        first = free_of(stock, loans)
        first[1] = 50
        self.assertEqual(free_of(stock, loans), [1, 1])


class FitsTest(unittest.TestCase):
    def check(self, amounts, other, answer):
        amounts_ahead = list(amounts)
        other_ahead = list(other)
        self.assertIs(fits(amounts, other), answer)
        self.assertEqual(amounts, amounts_ahead)
        self.assertEqual(other, other_ahead)

    def test_as_much_in_every_kind(self):
        self.check([0], [0], True)
        self.check([3], [3], True)
        self.check([3, 0, 5], [3, 0, 5], True)

    def test_a_row_fits_itself(self):
        row = [2, 7, 1]
        self.check(row, row, True)

    def test_less_in_every_kind(self):
        self.check([2], [3], True)
        self.check([0, 1, 2], [1, 2, 3], True)

    def test_more_in_every_kind(self):
        self.check([4], [3], False)
        self.check([1, 2, 3], [0, 1, 2], False)

    def test_one_more_in_one_kind_alone(self):
        for other in ([5, 5, 5], [1, 9, 4, 0, 3]):
            for kind in range(len(other)):
                for below in (0, 1):
                    with self.subTest(other=other, kind=kind, below=below):
                        amounts = [number - below for number in other]
                        amounts[kind] = other[kind] + 1
                        self.check(amounts, other, False)

    def test_one_kind_is_not_made_up_for_by_another(self):
        self.check([0, 0, 2], [100, 100, 1], False)
        self.check([2, 0, 0], [1, 100, 100], False)

    def test_numbers_below_nought(self):
        self.check([-1], [0], True)
        self.check([0], [-1], False)
        self.check([-3], [-2], True)
        self.check([-2], [-3], False)
        self.check([-2, -2], [-2, -2], True)
        self.check([-5, 1], [5, 0], False)
        self.check([-9, -9, -1], [9, 9, -2], False)

    def test_great_numbers(self):
        for great in (10 ** 12, HUGE):
            with self.subTest(great=great):
                self.check([great, great], [great, great], True)
                self.check([great, great - 1], [great, great], True)
                self.check([great, great + 1], [great, great], False)
                self.check([great + 1, great], [great, great], False)
                self.check([-great], [-great - 1], False)
                self.check([-great - 1], [-great], True)

    def test_more_than_a_hundred_kinds(self):
        other = [kind * 7 % 11 for kind in range(1001)]
        self.check(list(other), other, True)
        for kind in (0, 99, 100, 500, 1000):
            with self.subTest(kind=kind):
                amounts = list(other)
                amounts[kind] += 1
                self.check(amounts, other, False)

    def test_all_small_rows_of_three_kinds(self):
        rows = [list(row) for row in itertools.product((-1, 0, 1), repeat=3)]
        for amounts in rows:
            for other in rows:
                over = [kind for kind in range(3) if amounts[kind] > other[kind]]
                with self.subTest(amounts=amounts, other=other):
                    self.check(amounts, other, over == [])


class RestTest(unittest.TestCase):
    def can_finish(self, claim, loan, amounts):
        return fits(less(claim, loan), amounts)

    def test_rest_is_claim_less_loan(self):
        claim = [5, 3, 2]
        loan = [1, 3, 0]
        self.assertEqual(less(claim, loan), [4, 0, 2])
        self.assertEqual(claim, [5, 3, 2])
        self.assertEqual(loan, [1, 3, 0])

    def test_can_finish_where_the_rest_is_no_more_in_any_kind(self):
        free = free_of([4, 4], [[1, 2], [2, 0]])
        self.assertEqual(free, [1, 2])
        self.assertIs(self.can_finish([2, 4], [1, 2], free), True)
        self.assertIs(self.can_finish([3, 3], [2, 0], free), False)
        self.assertIs(self.can_finish([4, 0], [2, 0], free), False)

    def test_with_the_whole_claim_lent_nothing_more_is_wanted(self):
        self.assertIs(self.can_finish([3, 2], [3, 2], [0, 0]), True)


class HelpersTest(unittest.TestCase):
    def test_more_is_kind_by_kind(self):
        amounts = [1, 0, HUGE]
        other = [2, 3, HUGE]
        self.assertEqual(more(amounts, other), [3, 3, 2 * HUGE])
        self.assertEqual((amounts, other), ([1, 0, HUGE], [2, 3, HUGE]))

    def test_copies_share_no_list(self):
        loans = [[1, 2], [3, 4]]
        answer = copies(loans)
        self.assertEqual(answer, loans)
        answer[0][0] = 9
        answer.append([])
        self.assertEqual(loans, [[1, 2], [3, 4]])


if __name__ == "__main__":
    unittest.main()

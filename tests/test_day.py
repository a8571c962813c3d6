import copy
import itertools
import random
import unittest

import yard_checks
from lendyard.day import answers, loans_behind
from lendyard.errors import Knotted, LoanError, NoAmount, NotFree, NotLent, NoWorker, OverClaim
from lendyard.lending import lent, returned
from lendyard.ways import way_out

EVERY_ANSWER = ["given back", "knot", "lent", "no amount", "no worker", "not free", "not lent", "over claim"]


def one_by_one(stock, claims, deeds):
    """The day done with `lent` and `returned`, deed by deed."""
    words = {
        NoWorker: "no worker",
        NoAmount: "no amount",
        OverClaim: "over claim",
        NotFree: "not free",
        Knotted: "knot",
        NotLent: "not lent",
    }
    loans = [[0] * len(stock) for claim in claims]
    texts = []
    told = []
    for word, worker, amounts in deeds:
        try:
            if word == "ask":
                loans = lent(stock, claims, loans, worker, amounts)
                texts.append("lent")
            else:
                loans = returned(loans, worker, amounts)
                texts.append("given back")
        except LoanError as refusal:
            texts.append(words[type(refusal)])
        told.append(copy.deepcopy(loans))
    return texts, told


def chance_amounts(chance, bounds, parts):
    part = chance.choice(parts)
    amounts = [chance.randint(0, bound // part + (chance.random() < 0.3 / len(bounds))) for bound in bounds]
    if chance.random() < 0.05:
        amounts[chance.randrange(len(bounds))] = -chance.randint(1, 3)
    return amounts


def chance_day(chance, workers, kinds, most, deeds, parts=(1, 2, 4)):
    """A day with some deeds of every sort, wrong ones among them; no ask is for more than such a part of a claim."""
    stock = [chance.randint(0, most) for kind in range(kinds)]
    claims = [[chance.randint(0, number) for number in stock] for worker in range(workers)]
    row = []
    asks = []
    for turn in range(deeds):
        worker = chance.randint(0, max(0, workers - 1))
        if chance.random() < 0.05:
            worker = chance.choice((-1, workers, workers + 3, -workers))
        amounts = chance_amounts(chance, claims[worker] if 0 <= worker < workers else stock, parts)
        if chance.random() < 0.6:
            asks.append((worker, amounts))
            row.append(("ask", worker, amounts))
        elif asks and chance.random() < 0.7:
            # Most of what is given back was asked for, or it would seldom be there.
            worker, amounts = chance.choice(asks)
            row.append(("give", worker, [number // chance.choice((1, 2)) for number in amounts]))
        else:
            row.append(("give", worker, amounts))
    return stock, claims, row


class DayCheck(yard_checks.YardTest):
    def both(self, stock, claims, deeds):
        texts = self.untouched(answers, stock, claims, deeds)
        self.assertIs(type(texts), list)
        self.assertTrue(all(type(text) is str for text in texts))
        told = self.untouched(loans_behind, stock, claims, deeds)
        self.whole(told)
        self.assertEqual(len(texts), len(deeds))
        self.assertEqual(len(told), len(deeds))
        return texts, told

    def check(self, stock, claims, steps):
        """Each step is a deed, the answer to it and the loans behind it."""
        texts, told = self.both(stock, claims, [deed for deed, text, loans in steps])
        self.assertEqual(texts, [text for deed, text, loans in steps])
        self.assertEqual(told, [loans for deed, text, loans in steps])


class DayTest(DayCheck):
    def test_no_deed(self):
        self.check([3], [[2]], [])
        self.check([3, 1], [], [])

    def test_no_worker(self):
        steps = [((word, worker, [0, 1]), "no worker", []) for word in ("ask", "give") for worker in (-1, 0, 1)]
        self.check([3, 1], [], steps)

    def test_a_day_begins_without_loans(self):
        self.check([3, 4], [[3, 4], [1, 1]], [(("ask", 1, [0, 0]), "lent", [[0, 0], [0, 0]])])
        self.check([3, 4], [[3, 4], [1, 1]], [(("ask", 0, [3, 4]), "lent", [[3, 4], [0, 0]])])
        self.check([3, 4], [[3, 4], [1, 1]], [(("give", 0, [0, 1]), "not lent", [[0, 0], [0, 0]])])
        self.check([3, 4], [[3, 4], [1, 1]], [(("give", 0, [0, 0]), "given back", [[0, 0], [0, 0]])])

    def test_each_of_the_eight_answers(self):
        steps = [
            (("ask", 0, [2, 1]), "lent", [[2, 1], [0, 0]]),
            (("ask", 2, [1, 0]), "no worker", [[2, 1], [0, 0]]),
            (("give", 2, [1, 0]), "no worker", [[2, 1], [0, 0]]),
            (("ask", -1, [1, 0]), "no worker", [[2, 1], [0, 0]]),
            (("give", -2, [1, 0]), "no worker", [[2, 1], [0, 0]]),
            (("ask", 0, [1, -1]), "no amount", [[2, 1], [0, 0]]),
            (("give", 0, [-1, 0]), "no amount", [[2, 1], [0, 0]]),
            (("ask", 0, [2, 0]), "over claim", [[2, 1], [0, 0]]),
            (("ask", 1, [2, 0]), "knot", [[2, 1], [0, 0]]),
            (("ask", 1, [3, 0]), "not free", [[2, 1], [0, 0]]),
            (("ask", 1, [1, 1]), "lent", [[2, 1], [1, 1]]),
            (("give", 1, [2, 0]), "not lent", [[2, 1], [1, 1]]),
            (("give", 0, [2, 0]), "given back", [[0, 1], [1, 1]]),
            (("give", 1, [1, 1]), "given back", [[0, 1], [0, 0]]),
        ]
        self.check([4, 2], [[3, 1], [4, 2]], steps)
        self.assertEqual(sorted({text for deed, text, loans in steps}), EVERY_ANSWER)

    def test_the_first_refusal_is_told(self):
        claims = [[3, 1], [3, 3]]
        ahead = (("ask", 1, [2, 0]), "lent", [[0, 0], [2, 0]])
        for deed, text in (
            (("ask", 2, [-1, 9]), "no worker"),
            (("ask", 0, [-1, 9]), "no amount"),
            (("ask", 0, [2, 2]), "over claim"),
            (("ask", 0, [2, 1]), "not free"),
            (("give", 2, [-1, 9]), "no worker"),
            (("give", 1, [3, -1]), "no amount"),
            (("give", 1, [3, 0]), "not lent"),
        ):
            with self.subTest(deed=deed):
                self.check([3, 4], claims, [ahead, (deed, text, [[0, 0], [2, 0]])])

    def test_a_refused_deed_changes_nothing(self):
        wrong = [
            (("ask", 5, [1, 0]), "no worker"),
            (("ask", 0, [-1, 0]), "no amount"),
            (("ask", 0, [4, 0]), "over claim"),
            (("ask", 1, [4, 2]), "not free"),
            (("ask", 1, [2, 1]), "knot"),
            (("give", 5, [1, 0]), "no worker"),
            (("give", 0, [0, -1]), "no amount"),
            (("give", 0, [3, 0]), "not lent"),
            (("give", 1, [0, 1]), "not lent"),
        ]
        first = (("ask", 0, [2, 1]), "lent", [[2, 1], [0, 0]])
        last = (("ask", 1, [1, 1]), "lent", [[2, 1], [1, 1]])
        for deed, text in wrong:
            with self.subTest(deed=deed):
                refused = (deed, text, [[2, 1], [0, 0]])
                self.check([4, 2], [[3, 1], [4, 2]], [first, refused, refused, last])

    def test_a_worker_asks_gives_back_and_asks_again(self):
        steps = [
            (("ask", 0, [2]), "lent", [[2], [0]]),
            (("ask", 0, [1]), "lent", [[3], [0]]),
            (("ask", 0, [1]), "over claim", [[3], [0]]),
            (("give", 0, [2]), "given back", [[1], [0]]),
            (("ask", 0, [3]), "over claim", [[1], [0]]),
            (("ask", 0, [2]), "lent", [[3], [0]]),
            (("give", 0, [3]), "given back", [[0], [0]]),
            (("give", 0, [1]), "not lent", [[0], [0]]),
            (("ask", 0, [3]), "lent", [[3], [0]]),
        ]
        self.check([3], [[3], [2]], steps)

    def test_what_was_refused_is_lent_once_enough_is_given_back(self):
        steps = [
            (("ask", 0, [1]), "lent", [[1], [0]]),
            (("ask", 1, [2]), "not free", [[1], [0]]),
            (("ask", 1, [1]), "knot", [[1], [0]]),
            (("give", 0, [1]), "given back", [[0], [0]]),
            (("ask", 1, [1]), "lent", [[0], [1]]),
            (("ask", 0, [1]), "knot", [[0], [1]]),
            (("ask", 1, [1]), "lent", [[0], [2]]),
        ]
        self.check([2], [[2], [2]], steps)

    def test_nought_of_everything(self):
        steps = [
            (("ask", 0, [0, 0]), "lent", [[0, 0]]),
            (("give", 0, [0, 0]), "given back", [[0, 0]]),
            (("ask", 0, [0, 1]), "over claim", [[0, 0]]),
            (("give", 0, [1, 0]), "not lent", [[0, 0]]),
        ]
        self.check([0, 0], [[0, 0]], steps)

    def test_great_numbers(self):
        for great in (10 ** 12, 10 ** 60, 10 ** 400):
            with self.subTest(digits=len(str(great))):
                steps = [
                    (("ask", 0, [great]), "lent", [[great], [0]]),
                    (("ask", 0, [great + 1]), "over claim", [[great], [0]]),
                    (("ask", 1, [great + 1]), "not free", [[great], [0]]),
                    (("ask", 1, [great]), "knot", [[great], [0]]),
                    (("ask", great, [1]), "no worker", [[great], [0]]),
                    (("ask", 1, [-great]), "no amount", [[great], [0]]),
                    (("give", 0, [great + 1]), "not lent", [[great], [0]]),
                    (("give", 0, [great - 1]), "given back", [[1], [0]]),
                    (("ask", 1, [great]), "knot", [[1], [0]]),
                    (("give", 0, [1]), "given back", [[0], [0]]),
                    (("ask", 1, [2 * great]), "lent", [[0], [2 * great]]),
                ]
                self.check([2 * great], [[2 * great], [2 * great]], steps)

    def test_one_list_handed_in_several_times(self):
        amounts = [1, 0]
        claim = [2, 1]
        steps = [
            (("ask", 0, amounts), "lent", [[1, 0], [0, 0]]),
            (("ask", 0, amounts), "lent", [[2, 0], [0, 0]]),
            (("ask", 1, amounts), "lent", [[2, 0], [1, 0]]),
            (("give", 0, amounts), "given back", [[1, 0], [1, 0]]),
            (("ask", 1, claim), "over claim", [[1, 0], [1, 0]]),
        ]
        self.check([5, 2], [claim, claim], steps)

    def test_the_loans_told_can_be_changed(self):
        stock = [4, 2]
        claims = [[3, 1], [4, 2]]
        deeds = [("ask", 0, [2, 1]), ("ask", 7, [0, 0]), ("ask", 0, [9, 9]), ("give", 0, [1, 0]), ("give", 1, [0, 0])]
        handed = copy.deepcopy((stock, claims, deeds))
        right = [[[2, 1], [0, 0]]] * 3 + [[[1, 1], [0, 0]]] * 2
        for place in range(len(deeds)):
            with self.subTest(place=place):
                told = loans_behind(stock, claims, deeds)
                self.assertEqual(told, right)
                for loan in told[place]:
                    loan[0] = 70
                    loan.append(80)
                told[place].append([90])
                self.assertEqual(told[:place] + told[place + 1:], right[:place] + right[place + 1:])
                self.assertEqual((stock, claims, deeds), handed)

    def test_no_list_is_told_for_two_deeds(self):
        for claims in ([], [[1, 1]], [[1, 1], [2, 2]]):
            for deed in (("ask", 0, [0, 0]), ("ask", 0, [9, 9]), ("give", 0, [0, 0]), ("give", 5, [0, 0])):
                with self.subTest(workers=len(claims), deed=deed):
                    told = self.untouched(loans_behind, [3, 3], claims, [deed] * 5)
                    places = [id(one) for one in yard_checks.lists_in(told)]
                    self.assertEqual(len(set(places)), len(places))

    def test_a_day_is_the_same_twice(self):
        day = chance_day(random.Random(30), 4, 3, 9, 60)
        self.same(self.both(*day), self.both(*day))


class ManyDaysTest(DayCheck):
    def held_against_the_words(self, day):
        texts, told = self.both(*day)
        self.same((texts, told), yard_checks.day_by_the_words(*day))
        self.same((texts, told), one_by_one(*day))
        return texts

    def test_all_short_days_in_small_yards(self):
        for stock, claims in (([1], [[1], [1]]), ([2], [[2], [2]]), ([2], [[1], [2]])):
            deeds = [
                (word, worker, [number])
                for word in ("ask", "give")
                for worker in (0, 1)
                for number in range(-1, 4)
            ] + [("ask", -1, [0]), ("give", 2, [0])]
            for count in range(3):
                for row in itertools.product(deeds, repeat=count):
                    self.held_against_the_words((stock, claims, list(row)))

    def test_days_of_few_workers(self):
        chance = random.Random(31)
        heard = {}
        for turn in range(400):
            workers = chance.randint(0, 4)
            kinds = chance.randint(1, 4)
            day = chance_day(chance, workers, kinds, chance.choice((1, 3, 8, 10 ** 12, 10 ** 40)), 25)
            for text in self.held_against_the_words(day):
                heard[text] = heard.get(text, 0) + 1
        self.assertEqual(sorted(heard), EVERY_ANSWER)
        self.assertGreater(min(heard.values()), 50)

    def test_days_of_many_workers_and_kinds(self):
        chance = random.Random(32)
        heard = {}
        for workers, kinds in ((100, 100), (100, 1), (1, 100), (110, 105)):
            day = chance_day(chance, workers, kinds, 10 ** 12, 80, (2, 30, 100, 300))
            with self.subTest(workers=workers, kinds=kinds):
                texts, told = self.both(*day)
                self.same((texts, told), one_by_one(*day))
                for text in texts:
                    heard[text] = heard.get(text, 0) + 1
        self.assertEqual(sorted(heard), EVERY_ANSWER)
        self.assertGreater(heard["lent"], 40)


class FinishingTest(DayCheck):
    """Point 11: behind every deed there is an order, and nothing that its workers do is refused."""

    def finish(self, stock, claims, loans, order):
        deeds = []
        for worker in order:
            rest = [claim - held for claim, held in zip(claims[worker], loans[worker])]
            loans = self.untouched(lent, stock, claims, loans, worker, rest)
            self.same(loans[worker], claims[worker])
            deeds.append(("ask", worker, rest))
            loans = self.untouched(returned, loans, worker, claims[worker])
            deeds.append(("give", worker, list(claims[worker])))
        self.same(loans, [[0] * len(stock) for claim in claims])
        return deeds

    def told_order(self, stock, claims, loans):
        word, row = way_out(stock, claims, loans)
        self.assertEqual(word, "order")
        self.assertTrue(yard_checks.is_order(stock, claims, loans, row))
        return row

    def test_behind_each_deed_the_workers_of_the_order_can_finish(self):
        chance = random.Random(41)
        for turn in range(60):
            workers = chance.randint(0, 7)
            most = chance.choice((2, 6, 10 ** 30))
            stock, claims, deeds = chance_day(chance, workers, chance.randint(1, 4), most, 20)
            texts, told = self.both(stock, claims, deeds)
            for place, loans in enumerate(told):
                last = self.finish(stock, claims, loans, self.told_order(stock, claims, loans))
                whole = answers(stock, claims, deeds[:place + 1] + last)
                self.same(whole[:place + 1], texts[:place + 1])
                self.same(whole[place + 1:], ["lent", "given back"] * workers)

    def test_behind_each_deed_the_workers_of_every_order_can_finish(self):
        chance = random.Random(42)
        seen = 0
        for turn in range(60):
            stock, claims, deeds = chance_day(chance, chance.randint(1, 4), chance.randint(1, 3), 4, 15)
            for loans in loans_behind(stock, claims, deeds):
                orders = yard_checks.all_orders(stock, claims, loans)
                self.assertGreater(len(orders), 0)
                for order in orders:
                    self.finish(stock, claims, loans, order)
                    seen += 1
        self.assertGreater(seen, 1000)

    def test_in_a_day_of_many_workers_and_kinds(self):
        stock, claims, deeds = chance_day(random.Random(43), 100, 100, 10 ** 12, 60, (60, 200))
        told = loans_behind(stock, claims, deeds)
        for loans in told:
            self.told_order(stock, claims, loans)
        self.finish(stock, claims, told[-1], self.told_order(stock, claims, told[-1]))

    def test_giving_back_never_makes_a_knot(self):
        for stock, claims, loans in yard_checks.small_yards(2, 2, 2, 2):
            if way_out(stock, claims, loans)[0] == "order":
                for worker in range(2):
                    for amounts in itertools.product(*[range(number + 1) for number in loans[worker]]):
                        behind = returned(loans, worker, list(amounts))
                        self.assertFalse(yard_checks.has_knot(stock, claims, behind))


if __name__ == "__main__":
    unittest.main()

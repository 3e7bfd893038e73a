"""Prices, costs, runs of requests, and the rules that cost least."""

import random
import unittest

from keepbefore.costs import cheapest, cost, run
from keepbefore.errors import InvalidCount, InvalidPrices, InvalidRequests, InvalidSize
from keepbefore.rules import Rules
from tests.helpers import OTHER_KINDS, TRIPLES, WRONG_REQUESTS, example_result
from tests.twins import any_requests, any_rules, walk

EXAMPLE = """
>>> from keepbefore.costs import run
>>> from keepbefore.rules import Rules
>>> run(2, 1, Rules("around", "keep", "used", 0), [("read", 0), ("read", 0), ("write", 0, 3), ("read", 0)])
([0, 0, True, 3], (2, 1, 1, 1, 3, 1))
"""

RULES = Rules("back", "keep", "used", 2)
FREE = (0,) * 6


class PricesTest(unittest.TestCase):
    def test_sums_of_random_counts_and_prices(self):
        source = random.Random(1)
        for _ in range(500):
            counts = tuple(source.choice([0, 1, source.randrange(1000), source.randrange(10 ** 30)]) for _ in range(6))
            prices = tuple(source.choice([0, 1, 999, source.randrange(1000)]) for _ in range(6))
            total = 0
            for place in range(6):
                total += counts[place] * prices[place]
            self.assertEqual(cost(counts, prices), total)

    def test_each_price_is_for_its_count(self):
        for place in range(6):
            prices = tuple(int(other == place) for other in range(6))
            self.assertEqual(cost((1, 10, 100, 1000, 10000, 100000), prices), 10 ** place)

    def assert_invalid(self, prices, index):
        calls = [lambda: cost((1,) * 6, prices), lambda: cheapest(2, 1, 0, [("read", 0)], prices)]
        for call in calls:
            with self.subTest(prices=prices), self.assertRaises(InvalidPrices) as caught:
                call()
            self.assertEqual(repr(caught.exception.index), repr(index))

    def test_invalid_missing_or_superfluous_prices(self):
        for place in range(6):
            for wrong in [1000, 10 ** 9, *OTHER_KINDS]:
                prices = [5] * 6
                prices[place] = wrong
                self.assert_invalid(tuple(prices), place)
                # Only the first one counts.
                for other in range(place + 1, 6):
                    prices[other] = None
                self.assert_invalid(tuple(prices), place)
                self.assert_invalid((*prices, 5), place)
        for many in range(6):
            self.assert_invalid((999,) * many, many)
        for many in (7, 8, 20):
            self.assert_invalid((0,) * many, 6)
        self.assert_invalid((0,) * 6 + (None,), 6)

    def test_no_tuple(self):
        for thing in [[0] * 6, {}, *OTHER_KINDS]:
            if not isinstance(thing, tuple):
                self.assert_invalid(thing, 0)


class RunTest(unittest.TestCase):
    def test_the_example(self):
        result, told = example_result(EXAMPLE)
        self.assertEqual(repr(result), repr(told))

    def test_by_own_walking(self):
        source = random.Random(1)
        for _ in range(500):
            blocks, slots, rules = source.randint(1, 16), source.randint(1, 8), any_rules(source)
            requests = any_requests(source, blocks)
            result = run(blocks, slots, Rules(*rules), requests)
            self.assertEqual(repr(result), repr(walk(blocks, slots, rules, requests)[:2]))

    def test_the_arguments_stay_and_the_results_are_new(self):
        requests = [("write", 0, 5), ("read", 0), ("read", 1)]
        first = run(2, 1, RULES, requests)
        text = repr(first)
        self.assertEqual(requests, [("write", 0, 5), ("read", 0), ("read", 1)])
        first[0].append(9)
        self.assertEqual(repr(run(2, 1, RULES, requests)), text)

    def test_forty_requests_are_not_too_many(self):
        self.assertEqual(run(1, 1, RULES, [("read", 0)] * 40)[0], [0] * 40)
        self.assertEqual(run(1, 1, RULES, []), ([], (0,) * 6))

    def test_requests_with_other_values_cost_the_same(self):
        source = random.Random(2)
        for _ in range(100):
            blocks, slots, rules = source.randint(1, 5), source.randint(1, 3), Rules(*any_rules(source))
            requests = any_requests(source, blocks)
            others = [(name, block, *[999 - number for number in value]) for name, block, *value in requests]
            results, counts = run(blocks, slots, rules, requests)
            other_results, other_counts = run(blocks, slots, rules, others)
            self.assertEqual(other_counts, counts)
            writes = [at for at, request in enumerate(requests) if request[0] == "write"]
            self.assertEqual([results[at] for at in writes], [other_results[at] for at in writes])

    def test_costs_of_single_requests_against_those_of_all_together(self):
        source = random.Random(3)
        for _ in range(60):
            blocks, slots, rules = source.randint(1, 5), source.randint(1, 3), Rules(*any_rules(source))
            requests = any_requests(source, blocks, 15)
            prices = tuple(source.randrange(1000) for _ in range(6))
            single = []
            for many in range(len(requests)):
                ahead = run(blocks, slots, rules, requests[:many])[1]
                behind = run(blocks, slots, rules, requests[:many + 1])[1]
                counts = tuple(after - before for after, before in zip(behind, ahead))
                self.assertTrue(all(count >= 0 for count in counts))
                single.append(cost(counts, prices))
            self.assertEqual(sum(single), cost(run(blocks, slots, rules, requests)[1], prices))


class ErrorsTest(unittest.TestCase):
    def both_calls(self, blocks, slots, requests, prices=FREE):
        return [lambda: run(blocks, slots, RULES, requests), lambda: cheapest(blocks, slots, 0, requests, prices)]

    def assert_raise(self, error, calls, index=None):
        for call in calls:
            with self.assertRaises(error) as caught:
                call()
            self.assertIs(type(caught.exception), error)
            if index is not None:
                self.assertEqual(repr(caught.exception.index), repr(index))

    def test_sizes_come_first(self):
        for requests, prices in (([], FREE), (None, None), ([("read", 99)], ())):
            for wrong in [0, 17, *OTHER_KINDS]:
                self.assert_raise(InvalidSize, self.both_calls(wrong, 1, requests, prices))
            for wrong in [0, 9, *OTHER_KINDS]:
                self.assert_raise(InvalidSize, self.both_calls(1, wrong, requests, prices))
        self.assert_raise(InvalidSize, [lambda: cheapest(0, 1, None, None, None), lambda: cheapest(1, 0, 9, None, None)])

    def test_the_first_wrong_request(self):
        right = [("read", 0), ("write", 1, 5), ("write", 0, 0), ("write", 0, 999), ("read", 1)]
        for wrong in WRONG_REQUESTS:
            for place in range(len(right) + 1):
                requests = [*right[:place], wrong, *right[place:]]
                self.assert_raise(InvalidRequests, self.both_calls(2, 1, requests), place)
                self.assert_raise(InvalidRequests, self.both_calls(2, 1, [*requests, wrong], ()), place)

    def test_too_many_requests(self):
        for many in (41, 42, 100):
            self.assert_raise(InvalidRequests, self.both_calls(1, 1, [("read", 0)] * many), 40)
        self.assert_raise(InvalidRequests, self.both_calls(1, 1, [("read", 0)] * 39 + [None] * 5), 39)
        self.assert_raise(InvalidRequests, self.both_calls(1, 1, [("read", 0)] * 40 + [None]), 40)

    def test_no_list(self):
        for thing in [(("read", 0),), {}, *OTHER_KINDS]:
            if not isinstance(thing, list):
                self.assert_raise(InvalidRequests, self.both_calls(1, 1, thing), 0)

    def test_bounds(self):
        for wrong in [9, 10, *OTHER_KINDS]:
            for requests, prices in (([], FREE), (None, None), ([("read", 99)], ())):
                self.assert_raise(InvalidCount, [lambda: cheapest(1, 1, wrong, requests, prices)])

    def test_prices_come_last(self):
        self.assert_raise(InvalidRequests, [lambda: cheapest(1, 1, 0, [None], None)], 0)
        self.assert_raise(InvalidPrices, [lambda: cheapest(1, 1, 0, [], None)], 0)


class CheapestTest(unittest.TestCase):
    def by_all(self, blocks, slots, bound, requests, prices):
        costs = {}
        for triple in TRIPLES:
            counts = walk(blocks, slots, (*triple, bound), requests)[1]
            costs[triple] = sum(counts[place] * prices[place] for place in range(6))
        lowest = min(costs.values())
        return lowest, [triple for triple in TRIPLES if costs[triple] == lowest]

    def test_by_own_walking(self):
        source = random.Random(1)
        seen = set()
        for _ in range(250):
            blocks, slots, bound = source.randint(1, 8), source.randint(1, 5), source.randint(0, 8)
            requests = any_requests(source, blocks)
            prices = tuple(source.choice([0, 1, source.randrange(1000)]) for _ in range(6))
            result = cheapest(blocks, slots, bound, requests, prices)
            self.assertEqual(repr(result), repr(self.by_all(blocks, slots, bound, requests, prices)))
            seen |= set(result[1])
        self.assertGreater(len(seen), 12)

    def test_all_triples_cost_the_same_without_requests_or_prices(self):
        self.assertEqual(cheapest(1, 1, 0, [], (999,) * 6), (0, TRIPLES))
        self.assertEqual(cheapest(2, 1, 3, [("read", 0), ("write", 1, 2)], FREE), (0, TRIPLES))

    def test_the_bound_counts(self):
        requests = [("write", block, 5) for block in (0, 1, 0, 1, 0)]
        prices = (0, 1, 1, 0, 0, 0)
        self.assertEqual([cheapest(2, 4, bound, requests, prices)[0] for bound in (0, 1, 2)], [10, 8, 0])

    def test_the_arguments_stay_and_the_list_is_new(self):
        requests = [("read", 0), ("read", 0)]
        first = cheapest(1, 1, 0, requests, (1, 0, 0, 0, 0, 0))
        text = repr(first)
        first[1].clear()
        self.assertEqual(requests, [("read", 0), ("read", 0)])
        self.assertEqual(repr(cheapest(1, 1, 0, requests, (1, 0, 0, 0, 0, 0))), text)


if __name__ == "__main__":
    unittest.main()

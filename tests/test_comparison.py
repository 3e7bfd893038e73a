"""The first requests by which two rules part."""

import itertools
import random
import unittest

from keepbefore.comparison import first_parting
from keepbefore.costs import run
from keepbefore.errors import InvalidCount, InvalidSize
from keepbefore.rules import Rules
from tests.helpers import OTHER_KINDS, TRIPLES, example_result
from tests.twins import any_rules, walk

EXAMPLE = """
>>> from keepbefore.comparison import first_parting
>>> from keepbefore.rules import Rules
>>> first_parting(1, 1, Rules("around", "keep", "used", 0), Rules("through", "keep", "used", 0))
[('read', 0), ('write', 0, 1), ('read', 0)]
"""

RULES = Rules("back", "keep", "used", 2)
OTHER = Rules("through", "keep", "used", 2)


def all_requests(blocks, most):
    """All requests of at most so many, the fewest first, in list order."""
    singles = sorted([("read", block) for block in range(blocks)] + [("write", block, 1) for block in range(blocks)])
    for many in range(most + 1):
        yield from map(list, itertools.product(singles, repeat=many))


def by_all(blocks, slots, rules, other, most):
    for requests in all_requests(blocks, most):
        if walk(blocks, slots, rules, requests)[:2] != walk(blocks, slots, other, requests)[:2]:
            return requests
    return None


def parting_of(blocks, slots, rules, other, most):
    return first_parting(blocks, slots, Rules(*rules), Rules(*other), most=most)


def near_rules(source, rules):
    """Rules that differ in one part at most."""
    part = source.randrange(4)
    return (*rules[:part], any_rules(source)[part], *rules[part + 1:])


class PartingTest(unittest.TestCase):
    def test_the_example(self):
        result, told = example_result(EXAMPLE)
        self.assertEqual(repr(result), repr(told))

    def test_by_going_through_all(self):
        source = random.Random(1)
        found = []
        for number in range(250):
            rules = (*any_rules(source)[:3], source.randint(0, 3))
            other = (*rules[:3], source.randint(0, 3)) if number % 3 == 0 else near_rules(source, rules)
            given = (source.randint(1, 2), source.randint(1, 2), rules, other, source.randint(0, 3))
            requests = parting_of(*given)
            self.assertEqual(repr(requests), repr(by_all(*given)), given)
            found.append(None if requests is None else len(requests))
        self.assertEqual(set(found), {1, 2, 3, None})

    def test_four_requests_do_not_tell_the_choice(self):
        for choice, other in itertools.combinations(["used", "came", "rare"], 2):
            for sizes in ((1, 1), (2, 1), (2, 2)):
                given = (*sizes, ("through", "keep", choice, 0), ("through", "keep", other, 0), 4)
                self.assertIsNone(by_all(*given))
                self.assertIsNone(parting_of(*given))

    def test_bounds_part_by_as_many_writes(self):
        for bound in (0, 1, 2):
            parting = parting_of(3, 3, ("back", "keep", "used", bound), ("back", "keep", "used", 8), 4)
            self.assertEqual(parting, [("write", block, 1) for block in range(bound + 1)])

    def test_both_orders(self):
        source = random.Random(2)
        for _ in range(80):
            blocks, slots, most = source.randint(1, 3), source.randint(1, 3), source.randint(0, 3)
            rules = any_rules(source)
            other = near_rules(source, rules)
            self.assertEqual(parting_of(blocks, slots, rules, other, most), parting_of(blocks, slots, other, rules, most))

    def test_by_run_it_parts_them_and_all_shorter_ones_do_not(self):
        source = random.Random(3)
        for _ in range(40):
            blocks, slots, rules = source.randint(1, 3), source.randint(1, 3), any_rules(source)
            given = (blocks, slots, rules, near_rules(source, rules), 3)
            requests = parting_of(*given)
            parted = [list(some) for some in all_requests(blocks, 3) if self.runs(given, some)]
            self.assertEqual(requests is None, not parted)
            if parted:
                self.assertIn(requests, parted)
                self.assertEqual(min(len(some) for some in parted), len(requests))
                self.assertEqual(min(some for some in parted if len(some) == len(requests)), requests)

    def runs(self, given, requests):
        blocks, slots, rules, other, _ = given
        return run(blocks, slots, Rules(*rules), requests) != run(blocks, slots, Rules(*other), requests)

    def test_the_greatest_number(self):
        given = (1, 1, Rules("around", "keep", "used", 0), Rules("through", "keep", "used", 0))
        parting = [("read", 0), ("write", 0, 1), ("read", 0)]
        found = [first_parting(*given, most=most) for most in range(5)]
        self.assertEqual(found, [None, None, None, parting, parting])
        self.assertEqual(first_parting(*given), parting)
        given = (3, 2, Rules("through", "keep", "used", 0), Rules("through", "keep", "came", 0))
        self.assertIsNone(first_parting(*given, most=4))
        given = (1, 1, Rules("around", "pass", "used", 0), Rules("around", "pass", "came", 8))
        self.assertIsNone(first_parting(*given, most=4))

    def test_equal_rules_never_part(self):
        for triple in TRIPLES:
            rules = Rules(*triple, 1)
            self.assertIsNone(first_parting(2, 2, rules, rules))
            self.assertIsNone(first_parting(2, 1, rules, Rules(*triple, 1)))

    def test_the_list_is_new(self):
        first = first_parting(2, 1, RULES, OTHER)
        text = repr(first)
        first.clear()
        self.assertEqual(repr(first_parting(2, 1, RULES, OTHER)), text)


class ErrorsTest(unittest.TestCase):
    def test_sizes_come_first(self):
        for most in (0, 4, 5, None):
            for wrong in [0, 4, 16, *OTHER_KINDS]:
                with self.subTest(wrong=wrong), self.assertRaises(InvalidSize):
                    first_parting(wrong, 1, RULES, OTHER, most=most)
                with self.subTest(wrong=wrong), self.assertRaises(InvalidSize):
                    first_parting(1, wrong, RULES, OTHER, most=most)

    def test_numbers_of_requests(self):
        for wrong in [5, 6, 40, *OTHER_KINDS]:
            with self.subTest(wrong=wrong), self.assertRaises(InvalidCount):
                first_parting(1, 1, RULES, OTHER, most=wrong)
            with self.subTest(wrong=wrong), self.assertRaises(InvalidCount):
                first_parting(3, 3, RULES, RULES, most=wrong)

    def test_the_largest_calls_end(self):
        for triple in TRIPLES:
            for choice in ("used", "came", "rare"):
                self.assertIsNone(first_parting(3, 3, Rules(*triple, 8), Rules(*triple[:2], choice, 8), most=4))


if __name__ == "__main__":
    unittest.main()

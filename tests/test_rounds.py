"""Rounds of the same requests: from where on they repeat, and what there is after any number of them."""

import random
import unittest

from keepbefore.costs import run
from keepbefore.errors import InvalidCount, InvalidRequests, InvalidSize, InvalidSlot
from keepbefore.pairs import Pair
from keepbefore.rounds import Repeated
from keepbefore.rules import Rules
from tests.helpers import OTHER_KINDS, TRIPLES, WRONG_REQUESTS, example_result
from tests.model import Model
from tests.twins import any_requests, any_rules, renamed

EXAMPLE = """
>>> from keepbefore.rounds import Repeated
>>> from keepbefore.rules import Rules
>>> repeated = Repeated(2, 1, Rules("through", "keep", "used", 0), [("read", 0)])
>>> [repeated.settled, repeated.hits_after(10 ** 18), repeated.worn_after(0)]
[(1, 1), 999999999999999999, 1]
"""

RULES = Rules("through", "keep", "used", 0)
MOST = 10 ** 18


class SlotModel(Model):
    """Counts the writes to each slot, too."""

    def __init__(self, blocks, slots, rules):
        super().__init__(blocks, slots, rules)
        self.slot_writes = [0] * slots

    def put(self, name, cell, content):
        yield from super().put(name, cell, content)
        if name == "fast":
            self.slot_writes[cell] += 1

    def play(self, requests):
        """Which of the requests hit."""
        are_hits = []
        for request in requests:
            hits = self.hits
            self.call(*request)
            are_hits.append(self.hits > hits)
        return are_hits


def walked(given, many):
    """For each round what has to repeat, and for each number of rounds (hits, counts, slot writes) by then."""
    blocks, slots, rules, requests = given
    model = SlotModel(blocks, slots, rules)
    rounds, sums = [], [(0, (0,) * 6, [0] * slots)]
    for _ in range(many):
        are_hits = model.play(requests)
        sums.append((model.hits, model.counts(), list(model.slot_writes)))
        (_, counts, writes), (_, counts_ahead, writes_ahead) = sums[-1], sums[-2]
        rounds.append((are_hits, differences(counts, counts_ahead), differences(writes, writes_ahead)))
    return rounds, sums


def differences(later, earlier):
    return [after - before for after, before in zip(later, earlier)]


def settled_by_all(rounds):
    """The least first round and length by which all rounds repeat that were walked, or None if they are too few."""
    for first in range(len(rounds)):
        for length in range(1, (len(rounds) - first) // 3):
            if rounds[first:-length] == rounds[first + length:]:
                return first, length
    return None


def repeated_of(given):
    blocks, slots, rules, requests = given
    return Repeated(blocks, slots, Rules(*rules), requests)


def any_given(source, most_blocks=16, most_slots=8, most=20, least=1):
    """Sizes, rules and requests; often with too few slots, so that it is a long way until all repeats."""
    blocks = source.choice([source.randint(1, most_blocks), most_blocks])
    slots = source.choice([source.randint(1, most_slots), most_slots])
    share = source.choice([0, 0.3, 0.6])
    requests = any_requests(source, blocks, most, least)
    requests = [("read", request[1]) if source.random() < share else request for request in requests]
    return blocks, slots, any_rules(source), requests


class SettledTest(unittest.TestCase):
    def test_the_example(self):
        result, told = example_result(EXAMPLE)
        self.assertEqual(repr(result), repr(told))

    def test_by_going_through_all_first_rounds_and_lengths(self):
        source = random.Random(1)
        found = set()
        for _ in range(250):
            given = any_given(source, 5, 3, 8)
            rounds, _ = walked(given, 60)
            settled = repeated_of(given).settled
            self.assertEqual(repr(settled), repr(settled_by_all(rounds)), given)
            found.add(settled)
        self.assertGreater(len(found), 8)

    def test_from_there_on_and_not_from_the_round_before(self):
        source = random.Random(2)
        found = set()
        for number in range(160):
            given = any_given(source, 8, 4, 8) if number % 2 else any_given(source, least=12)
            first, length = repeated_of(given).settled
            found.add((first, length))
            rounds, _ = walked(given, first + 3 * length + 12)
            for number in range(first, len(rounds) - length):
                self.assertEqual(rounds[number], rounds[number + length], given)
            if first > 0:
                for other in range(1, 2 * length + 5):
                    self.assertNotEqual(rounds[first - 1:-other], rounds[first - 1 + other:], given)
            for other in range(1, length):
                self.assertNotEqual(rounds[first:-other], rounds[first + other:], given)
        self.assertGreater(len(found), 10)
        self.assertGreater(max(first for first, _ in found), 5)

    def test_each_part_of_a_round_counts(self):
        # The same counts in each round, but another slot that is written: as many rounds as slots.
        requests = [("read", 0), ("read", 1), ("read", 2)]
        self.assertEqual(Repeated(3, 2, Rules("through", "keep", "came", 0), requests).settled, (0, 2))
        # Nothing is written, but what hits changes once.
        requests = [("write", 0, 1), ("read", 1), ("write", 1, 2), ("read", 0)]
        self.assertEqual(Repeated(2, 2, Rules("through", "pass", "used", 0), requests).settled, (0, 1))
        self.assertEqual(Repeated(1, 1, Rules("through", "pass", "used", 0), [("read", 0)]).settled, (0, 1))
        self.assertEqual(Repeated(1, 1, Rules("back", "keep", "used", 8), [("write", 0, 1)]).settled, (1, 1))

    def test_uses_are_counted_up_to_nine(self):
        for triple in TRIPLES:
            for many in (1, 2, 3):
                given = (3, 2, (*triple, 8), [("read", 0)] * many + [("read", 1), ("read", 2), ("read", 0)])
                self.assertEqual(repeated_of(given).settled, settled_by_all(walked(given, 60)[0]), given)


class AfterTest(unittest.TestCase):
    def test_twenty_five_rounds_by_own_walking(self):
        source = random.Random(3)
        for _ in range(150):
            given = any_given(source, most=source.choice([3, 8, 20]))
            rounds, sums = walked(given, 25)
            repeated = repeated_of(given)
            for number in range(26):
                writes = [repeated.slot_writes(slot, number) for slot in range(given[1])]
                found = (repeated.hits_after(number), repeated.counts_after(number), writes)
                self.assertEqual(repr(found), repr(sums[number]), (given, number))
            hits = [is_hit for are_hits, _, _ in rounds for is_hit in are_hits]
            self.assertEqual(repr([repeated.is_hit(number) for number in range(len(hits))]), repr(hits), given)

    def test_on_a_pair_and_as_one_run(self):
        source = random.Random(4)
        for _ in range(100):
            blocks, slots, rules, requests = given = any_given(source, most=13)
            repeated = repeated_of(given)
            pair = Pair(blocks, slots, Rules(*rules))
            for number in range(1, 40 // len(requests) + 1):
                for place, (name, *arguments) in enumerate(requests):
                    hits = pair.hits
                    getattr(pair, name)(*arguments)
                    self.assertIs(repeated.is_hit((number - 1) * len(requests) + place), pair.hits > hits)
                self.assertEqual(repeated.counts_after(number), pair.counts)
                self.assertEqual(repeated.hits_after(number), pair.hits)
                self.assertEqual(repeated.counts_after(number), run(blocks, slots, Rules(*rules), requests * number)[1])

    def test_great_numbers_against_one_another(self):
        source = random.Random(5)
        for _ in range(150):
            given = any_given(source, least=source.choice([1, 20]))
            repeated, many = repeated_of(given), len(given[3])
            first, length = repeated.settled
            number = source.choice([first, source.randrange(first, 10 ** 16), 10 ** 16, 10 ** 17 // many])
            times = source.choice([1, 2, (10 ** 17) // length])
            for shown in (self.all_after(repeated, given[1], number + extra) for extra in (0, 1, length - 1)):
                self.assertEqual(shown[5], sum(shown[7:]))
            rounds = (number, number + length, number + length * times)
            for before, after, behind in zip(*[self.all_after(repeated, given[1], many_rounds) for many_rounds in rounds]):
                self.assertEqual(behind - before, times * (after - before))
            hits = [repeated.is_hit(many * number + place) for place in range(many)]
            self.assertEqual(sum(hits), repeated.hits_after(number + 1) - repeated.hits_after(number))
            self.assertEqual(hits, [repeated.is_hit(many * (number + length) + place) for place in range(many)])

    def all_after(self, repeated, slots, rounds):
        writes = [repeated.slot_writes(slot, rounds) for slot in range(slots)]
        return [repeated.hits_after(rounds), *repeated.counts_after(rounds), *writes]

    def test_the_greatest_numbers(self):
        repeated = Repeated(2, 1, Rules("back", "keep", "used", 0), [("write", 0, 5), ("read", 1)])
        self.assertEqual(repeated.counts_after(MOST), (MOST, MOST, MOST, 0, 3 * MOST, 3 * MOST))
        self.assertEqual([repeated.hits_after(MOST), repeated.slot_writes(0, MOST)], [0, 3 * MOST])
        self.assertIs(repeated.is_hit(MOST), False)
        self.assertEqual(repeated.worn_after(MOST), MOST // 3 + 1)
        repeated = Repeated(2, 1, Rules("through", "keep", "used", 0), [("read", 0)])
        self.assertIs(repeated.is_hit(MOST), True)


class WornTest(unittest.TestCase):
    def test_small_limits_by_own_walking(self):
        source = random.Random(6)
        nones = 0
        for _ in range(100):
            given = any_given(source, most=source.choice([2, 8, 20]))
            repeated = repeated_of(given)
            first, length = repeated.settled
            rounds, sums = walked(given, max(30, first + length))
            for limit in range(25):
                by_own = [number for number, (_, _, writes) in enumerate(sums) if max(writes) > limit]
                found = repeated.worn_after(limit)
                if by_own:
                    self.assertEqual(repr(found), repr(by_own[0]), (given, limit))
                elif found is None:
                    nones += 1
                    self.assertFalse(any(any(writes) for _, _, writes in rounds[first:first + length]), (given, limit))
                else:
                    self.assertGreater(found, len(rounds))
        self.assertGreater(nones, 20)

    def test_great_limits_by_the_writes_to_each_slot(self):
        source = random.Random(7)
        for _ in range(150):
            given = any_given(source)
            repeated, slots = repeated_of(given), range(given[1])
            first, length = repeated.settled
            in_a_length = [repeated.slot_writes(slot, first + length) - repeated.slot_writes(slot, first) for slot in slots]
            for limit in (source.randrange(100), source.randrange(10 ** 15), 10 ** 16):
                found = repeated.worn_after(limit)
                self.assertEqual(found is None, not any(in_a_length) and self.most_writes(repeated, slots, first) <= limit)
                if found is not None:
                    self.assertGreater(self.most_writes(repeated, slots, found), limit)
                    self.assertLessEqual(self.most_writes(repeated, slots, found - 1), limit)

    def most_writes(self, repeated, slots, rounds):
        return max(repeated.slot_writes(slot, rounds) for slot in slots)

    def test_more_rounds_than_other_numbers_allow(self):
        repeated = Repeated(3, 2, Rules("through", "keep", "came", 0), [("read", 0), ("read", 1), ("read", 2)])
        self.assertEqual([repeated.worn_after(limit) for limit in (0, 1, 2, 3, 4)], [1, 1, 2, 3, 3])
        slow = Repeated(9, 8, Rules("through", "keep", "came", 0), [("read", block) for block in range(9)])
        self.assertEqual(slow.settled, (0, 8))
        self.assertEqual(slow.worn_after(MOST), (MOST // 9) * 8 + slow.worn_after(MOST % 9))

    def test_slots_that_wear_slowly(self):
        # The write takes another slot in each round, so that each slot is written three times in eight rounds.
        given = (8, 8, ("back", "keep", "came", 8), [("write", 0, 5), *[("read", block) for block in range(1, 8)]])
        repeated, (_, sums) = repeated_of(given), walked(given, 200)
        for limit in range(30):
            self.assertEqual(repeated.worn_after(limit), [max(writes) > limit for _, _, writes in sums].index(True))
        _, length = repeated.settled
        self.assertGreater(length, 3)
        in_a_length = sums[50 + length][2][0] - sums[50][2][0]
        for many in (1, 10 ** 6, 10 ** 16):
            self.assertEqual(repeated.worn_after(20 + many * in_a_length), repeated.worn_after(20) + many * length)
        self.assertGreater(repeated.worn_after(MOST), 2 * MOST)

    def test_no_slot_is_ever_written_more_often(self):
        repeated = Repeated(2, 1, RULES, [("read", 0)])
        self.assertEqual([repeated.worn_after(limit) for limit in (0, 1, 2, MOST)], [1, None, None, None])
        self.assertIsNone(Repeated(2, 1, Rules("around", "pass", "used", 0), [("write", 0, 5)]).worn_after(0))


class ErrorsTest(unittest.TestCase):
    def assert_raises(self, error, call, *arguments):
        with self.subTest(arguments=arguments), self.assertRaises(error) as caught:
            call(*arguments)
        self.assertIs(type(caught.exception), error)
        return caught.exception

    def test_sizes_come_first(self):
        for requests in ([("read", 0)], [], None):
            for wrong in [0, 17, *OTHER_KINDS]:
                self.assert_raises(InvalidSize, Repeated, wrong, 1, RULES, requests)
            for wrong in [0, 9, *OTHER_KINDS]:
                self.assert_raises(InvalidSize, Repeated, 1, wrong, RULES, requests)

    def test_requests(self):
        right = [("read", 0), ("write", 1, 5), ("read", 1)]
        cases = [([], 0), ([("read", 0)] * 21, 20), ([("read", 1)] * 40, 20), ([("read", 0)] * 20 + [None], 20)]
        cases += [([*right[:place], wrong, *right[place:]], place) for place in range(4) for wrong in WRONG_REQUESTS]
        cases += [(thing, 0) for thing in [(("read", 0),), {}, *OTHER_KINDS]]
        for requests, index in cases:
            error = self.assert_raises(InvalidRequests, Repeated, 2, 1, RULES, requests)
            self.assertEqual(repr(error.index), repr(index))
        self.assertEqual(Repeated(1, 1, RULES, [("read", 0)] * 20).hits_after(1), 19)

    def test_numbers(self):
        repeated = Repeated(2, 3, RULES, [("read", 0)])
        for wrong in [MOST + 1, *OTHER_KINDS]:
            for call in (repeated.counts_after, repeated.hits_after, repeated.is_hit, repeated.worn_after):
                self.assert_raises(InvalidCount, call, wrong)
            self.assert_raises(InvalidCount, repeated.slot_writes, 2, wrong)

    def test_slots_come_first(self):
        repeated = Repeated(2, 3, RULES, [("read", 0)])
        for wrong in [3, 8, *OTHER_KINDS]:
            for rounds in (0, MOST, MOST + 1, None):
                self.assert_raises(InvalidSlot, repeated.slot_writes, wrong, rounds)


class WholeTest(unittest.TestCase):
    def test_arguments_stay_and_are_not_kept(self):
        requests = [("read", 0), ("write", 1, 5)]
        repeated = Repeated(2, 1, RULES, requests)
        shown = self.shown(repeated)
        self.assertEqual(requests, [("read", 0), ("write", 1, 5)])
        requests[0] = ("read", 1)
        requests.append(None)
        self.assertEqual(self.shown(repeated), shown)

    def shown(self, repeated):
        calls = (repeated.counts_after, repeated.hits_after, repeated.is_hit, repeated.worn_after)
        return repr([repeated.settled, [call(number) for call in calls for number in (0, 1, 2, 3, 9, MOST)]])

    def test_blocks_called_otherwise(self):
        source = random.Random(8)
        for _ in range(100):
            blocks, slots, rules, requests = given = any_given(source)
            names = source.sample(range(blocks), blocks)
            others = repeated_of((blocks, slots, rules, renamed(requests, names)))
            self.assertEqual(self.shown(others), self.shown(repeated_of(given)))

    def test_values_do_not_count(self):
        source = random.Random(9)
        for _ in range(50):
            blocks, slots, rules, requests = given = any_given(source)
            others = [(name, block, *[999 - number for number in value]) for name, block, *value in requests]
            self.assertEqual(self.shown(repeated_of((blocks, slots, rules, others))), self.shown(repeated_of(given)))

    def test_the_largest_calls_end(self):
        source = random.Random(10)
        for triple in TRIPLES:
            for bound in (0, 1, 4, 8):
                for _ in range(6):
                    requests = any_requests(source, 16, 20, 20)
                    repeated = Repeated(16, 8, Rules(*triple, bound), requests)
                    first, length = repeated.settled
                    self.assertGreater(sum(repeated.counts_after(MOST)), MOST)
                    earlier = 20 * first + (MOST - 20 * first) % (20 * length)
                    self.assertIs(repeated.is_hit(MOST), repeated.is_hit(earlier))
                    repeated.worn_after(MOST)


if __name__ == "__main__":
    unittest.main()

"""The fewest misses of reads, and plans of what to keep."""

import itertools
import random
import unittest

from keepbefore.errors import InvalidPlan, InvalidRequests, InvalidSize
from keepbefore.plans import fewest_misses, judge_plan
from tests.helpers import OTHER_KINDS, TRIPLES, example_result
from tests.twins import new_pair

EXAMPLE = """
>>> from keepbefore.plans import fewest_misses, judge_plan
>>> [fewest_misses(1, [0, 1, 0])[0], judge_plan(1, [0, 1, 0], ["keep", 0, 1])]
[2, 3]
"""


def fewest_by_all(slots, blocks):
    """Goes through all sets that could be kept."""
    fewest = {frozenset(): 0}
    for block in blocks:
        after = {}
        for kept, misses in fewest.items():
            is_miss = block not in kept
            for following in ways(kept, block, slots):
                after[following] = min(after.get(following, len(blocks)), misses + is_miss)
        fewest = after
    return min(fewest.values())


def ways(kept, block, slots):
    yield kept
    if block not in kept:
        if len(kept) < slots:
            yield kept | {block}
        for other in kept:
            yield kept - {other} | {block}


def walk(slots, blocks, plan):
    """How many misses a plan has, and the index of its first wrong entry, or None."""
    kept, misses = [], 0
    for index in range(max(len(blocks), len(plan))):
        if index >= min(len(blocks), len(plan)):
            return misses, index
        block, entry = blocks[index], plan[index]
        if block not in kept:
            misses += 1
        if entry is None:
            continue
        if block in kept:
            return misses, index
        if entry == "keep":
            if len(kept) == slots:
                return misses, index
        elif type(entry) is int and entry in kept:
            kept.remove(entry)
        else:
            return misses, index
        kept.append(block)
    return misses, None


def any_blocks(source, most=14, names=6):
    return [source.randrange(names) for _ in range(source.randint(0, most))]


class FewestTest(unittest.TestCase):
    def check(self, slots, blocks):
        fewest, plan = fewest_misses(slots, blocks)
        self.assertEqual(repr(fewest), repr(fewest_by_all(slots, blocks)), (slots, blocks))
        self.assertIsInstance(plan, list)
        self.assertEqual(walk(slots, blocks, plan), (fewest, None), (slots, blocks, plan))
        self.assertEqual(repr(judge_plan(slots, blocks, plan)), repr(fewest))
        return fewest

    def test_the_example(self):
        result, told = example_result(EXAMPLE)
        self.assertEqual(repr(result), repr(told))

    def test_by_going_through_all_sets(self):
        source = random.Random(1)
        for _ in range(700):
            self.check(source.randint(1, 6), any_blocks(source, names=source.randint(1, 6)))

    def test_all_short_reads(self):
        for many in range(6):
            for blocks in itertools.product(range(4), repeat=many):
                for slots in (1, 2, 3):
                    self.check(slots, list(blocks))

    def test_reads_of_many_blocks(self):
        source = random.Random(2)
        for _ in range(60):
            self.check(source.randint(1, 8), [source.randrange(16) for _ in range(14)])

    def test_reads_of_fourteen_blocks_and_of_their_beginnings(self):
        source = random.Random(3)
        for _ in range(40):
            blocks, slots = source.sample(range(16), 14), source.randint(1, 8)
            self.assertEqual([fewest_misses(slots, blocks[:many])[0] for many in range(15)], list(range(15)))
            blocks = [source.randrange(5) for _ in range(14)]
            fewest = [self.check(slots, blocks[:many]) for many in range(15)]
            for before, after in itertools.pairwise(fewest):
                self.assertIn(after - before, (0, 1))

    def test_the_same_with_the_blocks_called_otherwise(self):
        source = random.Random(4)
        for _ in range(200):
            blocks, slots = any_blocks(source), source.randint(1, 8)
            names = source.sample(range(16), 6)
            self.assertEqual(fewest_misses(slots, [names[block] for block in blocks])[0], fewest_misses(slots, blocks)[0])

    def test_no_rules_miss_less(self):
        source = random.Random(5)
        for _ in range(150):
            blocks, slots = any_blocks(source), source.randint(1, 6)
            fewest = fewest_misses(slots, blocks)[0]
            for triple in TRIPLES:
                pair = new_pair(6, slots, (*triple, source.randint(0, 8)))
                for block in blocks:
                    pair.read(block)
                self.assertGreaterEqual(pair.requests - pair.hits, fewest)

    def test_with_used_more_slots_hit_what_fewer_slots_hit(self):
        source = random.Random(6)
        for _ in range(150):
            blocks = [source.randrange(10) for _ in range(40)]
            hits = []
            for slots in range(1, 9):
                pair = new_pair(10, slots, ("through", "keep", "used", 0))
                hits.append(set())
                for number, block in enumerate(blocks):
                    ahead = pair.hits
                    pair.read(block)
                    if pair.hits > ahead:
                        hits[-1].add(number)
            for fewer, more in itertools.pairwise(hits):
                self.assertLessEqual(fewer, more)

    def test_the_largest_calls_end(self):
        for slots in range(1, 9):
            self.assertEqual(fewest_misses(slots, list(range(14)))[0], 14)
            self.assertEqual(fewest_misses(slots, [0] * 14)[0], 1)
            self.assertEqual(fewest_misses(slots, list(range(7)) * 2)[0], max(14 - slots, 7))

    def test_without_reads(self):
        self.assertEqual(fewest_misses(3, []), (0, []))
        self.assertEqual(judge_plan(3, [], []), 0)

    def test_the_arguments_stay_and_the_plan_is_new(self):
        blocks = [0, 1, 2, 0, 1, 2]
        first = fewest_misses(2, blocks)
        text = repr(first)
        first[1].append("keep")
        self.assertEqual([repr(fewest_misses(2, blocks)), blocks], [text, [0, 1, 2, 0, 1, 2]])


class JudgeTest(unittest.TestCase):
    def assert_judged(self, slots, blocks, plan):
        misses, index = walk(slots, blocks, plan)
        if index is None:
            self.assertEqual(repr(judge_plan(slots, blocks, plan)), repr(misses))
        else:
            self.assert_invalid(slots, blocks, plan, index)

    def assert_invalid(self, slots, blocks, plan, index):
        with self.subTest(plan=plan), self.assertRaises(InvalidPlan) as caught:
            judge_plan(slots, blocks, plan)
        self.assertEqual(repr(caught.exception.index), repr(index))

    def test_random_plans(self):
        source = random.Random(1)
        right = 0
        for _ in range(4000):
            slots, blocks = source.randint(1, 3), any_blocks(source, 6, 4)
            plan = self.any_plan(source, slots, blocks)
            right += walk(slots, blocks, plan)[1] is None
            self.assert_judged(slots, blocks, plan)
        self.assertTrue(500 < right < 3500, right)

    def any_plan(self, source, slots, blocks):
        """A plan that can be, but for an entry now and then."""
        plan, kept = [], []
        for block in blocks:
            entries = [None]
            if block not in kept:
                entries += kept + ["keep"] * (len(kept) < slots)
            entry = source.choice(entries)
            if source.random() < 0.05:
                entry = source.choice([*range(4), "keep"])
            plan.append(entry)
            if entry is not None:
                kept = [other for other in kept if other != entry] + [block]
        many = source.choice([0, 0, 0, 0, 1, -1])
        return plan[:-1] if many < 0 else plan + [None] * many

    def test_all_plans_of_short_reads(self):
        for blocks in ([0, 1, 0], [0, 1, 1], [0, 0, 1], [1, 0, 1]):
            for slots in (1, 2):
                for many in range(5):
                    for plan in itertools.product([None, "keep", 0, 1, 2], repeat=many):
                        self.assert_judged(slots, blocks, list(plan))

    def test_a_block_may_be_dropped_though_there_is_a_free_slot(self):
        self.assertEqual(judge_plan(8, [0, 1, 0], ["keep", 0, None]), 3)
        self.assertEqual(judge_plan(8, [0, 1, 0], ["keep", "keep", None]), 2)

    def test_entries_of_other_kinds(self):
        blocks = [0, 1, 2, 0]
        for place in range(4):
            for wrong in ["Keep", "", ("keep",), {}, *OTHER_KINDS]:
                if wrong is not None:
                    plan = ["keep", "keep", "keep", None]
                    plan[place] = wrong
                    self.assert_invalid(4, blocks, plan, place)
                    self.assert_invalid(4, blocks, [*plan, None], place)
                    self.assert_invalid(4, blocks, plan[:place + 1], place)
        # True is not the block 1, nor False the block 0.
        self.assert_invalid(1, [1, 0], ["keep", True], 1)
        self.assert_invalid(1, [0, 1], ["keep", False], 1)

    def test_no_list(self):
        for thing in [("keep",), {}, *OTHER_KINDS]:
            if not isinstance(thing, list):
                self.assert_invalid(1, [0], thing, 0)
                self.assert_invalid(1, [], thing, 0)

    def test_the_plan_stays(self):
        plan = ["keep", 0, 1]
        judge_plan(1, [0, 1, 0], plan)
        self.assertEqual(plan, ["keep", 0, 1])


class ErrorsTest(unittest.TestCase):
    def assert_raise(self, error, slots, blocks, index=None):
        for call in (lambda: fewest_misses(slots, blocks), lambda: judge_plan(slots, blocks, None)):
            with self.subTest(slots=slots, blocks=blocks), self.assertRaises(error) as caught:
                call()
            if index is not None:
                self.assertEqual(repr(caught.exception.index), repr(index))

    def test_slots(self):
        for wrong in [0, 9, 16, *OTHER_KINDS]:
            for blocks in ([], [0], None, [99]):
                self.assert_raise(InvalidSize, wrong, blocks)
        for slots in range(1, 9):
            self.assertEqual(fewest_misses(slots, [15, 0])[0], 2)

    def test_blocks(self):
        for wrong in [16, 17, *OTHER_KINDS]:
            for place in range(4):
                blocks = [0, 15, 3]
                blocks.insert(place, wrong)
                self.assert_raise(InvalidRequests, 1, blocks, place)
                self.assert_raise(InvalidRequests, 1, [*blocks, None], place)
        for many in (15, 16, 40):
            self.assert_raise(InvalidRequests, 8, [1] * many, 14)
        self.assert_raise(InvalidRequests, 8, [1] * 13 + [None] * 9, 13)
        for thing in [(0, 1), {}, *OTHER_KINDS]:
            if not isinstance(thing, list):
                self.assert_raise(InvalidRequests, 1, thing, 0)


if __name__ == "__main__":
    unittest.main()

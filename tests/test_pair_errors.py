"""What a pair raises, that nothing is changed by it, and which error comes first."""

import random
import unittest

from keepbefore.errors import (
    HasFastDisk, InvalidBlock, InvalidCount, InvalidKept, InvalidSize, InvalidValue, NoFastDisk, PowerFailed, PowerOff,
    PowerOn,
)
from keepbefore.pairs import Pair
from keepbefore.rules import Rules
from tests.helpers import OTHER_KINDS, any_recipes
from tests.twins import TwinsTestCase, any_request, any_rules, new_pair, shown, told

RULES = Rules("back", "keep", "used", 2)
UNSYNCED = (("slow", "fast", "done"), ("slow", "fast", "done", "free"), ("slow", "free", "done"), ("slow", "mark"))

# Each method with arguments that are right for a pair that is on.
CALLS = [
    ("read", 0), ("write", 0, 5), ("forget", 0), ("clean_up", 1), ("lose_slow",), ("lose_fast",), ("settle",),
    ("set_rules", Rules("through", "pass", "came", 3)), ("fail_at", 3), ("fail_at", None), ("cut",), ("give_fast", 2),
]


def used_pair(source, blocks=4, slots=3, recipes=UNSYNCED):
    """A pair in any state of use, with pending writes."""
    pair = new_pair(blocks, slots, any_rules(source), recipes)
    for _ in range(source.randint(0, 8)):
        name, *arguments = any_request(source, blocks)
        getattr(pair, name)(*arguments)
    return pair


class SizesTest(unittest.TestCase):
    def test_blocks_and_slots(self):
        for wrong in [0, 17, 18, -3, *OTHER_KINDS]:
            with self.subTest(wrong=wrong), self.assertRaises(InvalidSize):
                Pair(wrong, 1, RULES)
        for wrong in [0, 9, 16, -1, *OTHER_KINDS]:
            with self.subTest(wrong=wrong), self.assertRaises(InvalidSize):
                Pair(1, wrong, RULES)
        with self.assertRaises(InvalidSize):
            Pair(0, 0, RULES)

    def test_sizes_at_the_edges(self):
        for blocks, slots in ((1, 1), (16, 1), (1, 8), (16, 8)):
            pair = Pair(blocks, slots, Rules("back", "keep", "used", 8))
            self.assertEqual(len(pair.block_values), blocks)
            for number in range(40):
                pair.write(number % blocks, number)
            self.assertLessEqual(max(pair.known), slots - 1)
            pair.cut()
            ahead = pair.counts
            pair.restart((), ())
            self.assertEqual(pair.counts[3] - ahead[3], slots)


class ArgumentsTest(TwinsTestCase):
    def test_blocks(self):
        source = random.Random(1)
        for blocks in (1, 2, 16):
            for wrong in [blocks, blocks + 1, -blocks, *OTHER_KINDS]:
                pair = used_pair(source, blocks)
                self.assert_fails_unchanged(pair, InvalidBlock, pair.read, wrong)
                self.assert_fails_unchanged(pair, InvalidBlock, pair.write, wrong, 5)
                self.assert_fails_unchanged(pair, InvalidBlock, pair.forget, wrong)

    def test_values(self):
        source = random.Random(2)
        for wrong in [1000, 1001, -2, *OTHER_KINDS]:
            pair = used_pair(source)
            self.assert_fails_unchanged(pair, InvalidValue, pair.write, source.randrange(4), wrong)
        pair = used_pair(source)
        for value in (0, 1, 998, 999):
            pair.write(1, value)
            self.assertEqual(pair.read(1), value)

    def test_a_wrong_block_comes_ahead_of_a_wrong_value(self):
        pair = used_pair(random.Random(3))
        for block in (4, None, True, [0]):
            for value in (1000, None, "5", False):
                self.assert_fails_unchanged(pair, InvalidBlock, pair.write, block, value)

    def test_counts_of_records_to_clean(self):
        source = random.Random(4)
        for wrong in [9, 10, -2, *OTHER_KINDS]:
            pair = used_pair(source)
            self.assert_fails_unchanged(pair, InvalidCount, pair.clean_up, wrong)
        for count in range(9):
            self.assertIsInstance(used_pair(source).clean_up(count), list)
        self.assertEqual(used_pair(source).clean_up(0), [])

    def test_numbers_of_steps(self):
        source = random.Random(5)
        for wrong in [1000, 1001, -2, *[thing for thing in OTHER_KINDS if thing is not None]]:
            pair = used_pair(source)
            self.assert_fails_unchanged(pair, InvalidCount, pair.fail_at, wrong)
            pair.settle()
        for steps in (0, 1, 998, 999, None):
            self.assertIsNone(used_pair(source).fail_at(steps))

    def test_a_wrong_number_of_steps_leaves_the_failure_as_it_was(self):
        for wrong in (None, 1000, "0", True):
            pair = Pair(1, 1, RULES)
            pair.fail_at(1)
            if wrong is not None:
                self.assert_fails_unchanged(pair, InvalidCount, pair.fail_at, wrong)
                with self.assertRaises(PowerFailed):
                    pair.settle()
                self.assertEqual(pair.counts, (0, 0, 1, 0, 0, 0))
            else:
                pair.fail_at(wrong)
                pair.settle()
                self.assertTrue(pair.is_on)

    def test_wrong_requests_do_not_use_turns_or_numbers_or_slots(self):
        source = random.Random(6)
        for _ in range(60):
            pair, other = new_pair(3, 2, ("back", "keep", "rare", 2)), new_pair(3, 2, ("back", "keep", "rare", 2))
            for _ in range(20):
                name, *arguments = any_request(source, 3)
                getattr(pair, name)(*arguments)
                getattr(other, name)(*arguments)
                told(other.write, source.randrange(3), 1000)
                told(other.write, 3, 5)
                told(other.read, True)
                self.assertEqual(repr(shown(pair)), repr(shown(other)))

    def test_sizes_of_a_new_fast_disk(self):
        source = random.Random(7)
        pair = used_pair(source)
        for wrong in [0, 9, *OTHER_KINDS]:
            self.assert_fails_unchanged(pair, HasFastDisk, pair.give_fast, wrong)
        self.assert_fails_unchanged(pair, HasFastDisk, pair.give_fast, 1)
        pair.lose_fast()
        for wrong in [0, 9, *OTHER_KINDS]:
            self.assert_fails_unchanged(pair, InvalidSize, pair.give_fast, wrong)
        for slots in range(1, 9):
            self.assert_fails_unchanged(pair, NoFastDisk, pair.lose_fast)
            self.assertIsNone(pair.give_fast(slots))
            pair.lose_fast()


class PowerErrorsTest(TwinsTestCase):
    def test_on_then_off_then_restarted(self):
        source = random.Random(1)
        for number in range(40):
            recipes = any_recipes(source) if number % 2 else UNSYNCED
            pair = used_pair(source, recipes=recipes)
            if number % 4 == 0:
                pair.lose_fast()
            self.check_on(pair)
            pair.cut()
            self.check_off(pair)
            pair.restart((), ())
            self.check_on(pair)

    def check_on(self, pair):
        for slow_kept in [(), (0,), *OTHER_KINDS]:
            self.assert_fails_unchanged(pair, PowerOn, pair.restart, slow_kept, ())
            self.assert_fails_unchanged(pair, PowerOn, pair.restart, (), slow_kept)

    def check_off(self, pair):
        for name, *arguments in CALLS:
            self.assert_fails_unchanged(pair, PowerOff, getattr(pair, name), *arguments)
            for wrong in OTHER_KINDS:
                if arguments and name != "set_rules":
                    odd = [wrong] * len(arguments)
                    self.assert_fails_unchanged(pair, PowerOff, getattr(pair, name), *odd)
        for name in ("block_values", "known", "dirty"):
            self.assert_fails_unchanged(pair, PowerOff, lambda: getattr(pair, name))
        for name in ("pending", "counts", "rules", "hits", "requests", "is_on"):
            self.assertEqual(told(lambda: getattr(pair, name))[0], "value")
        self.assertIs(pair.is_on, False)

    def test_off_comes_ahead_of_what_is_there_of_the_fast_disk(self):
        for has_fast in (True, False):
            pair = new_pair(2, 2, ("back", "keep", "used", 2))
            if not has_fast:
                pair.lose_fast()
            pair.cut()
            self.assert_fails_unchanged(pair, PowerOff, pair.lose_fast)
            self.assert_fails_unchanged(pair, PowerOff, pair.give_fast, 0)
            self.assert_fails_unchanged(pair, PowerOff, pair.cut)

    def test_kept_writes_that_are_wrong(self):
        source = random.Random(2)
        for number in range(60):
            pair = used_pair(source)
            if number % 5 == 0:
                pair.lose_fast()
            pair.cut()
            slow, fast = [len(writes) for writes in pair.pending]
            for wrong in self.wrong_parts(slow):
                self.assert_fails_unchanged(pair, InvalidKept, pair.restart, wrong, ())
                self.assert_fails_unchanged(pair, InvalidKept, pair.restart, wrong, tuple(range(fast)))
            for wrong in self.wrong_parts(fast):
                self.assert_fails_unchanged(pair, InvalidKept, pair.restart, (), wrong)
                self.assert_fails_unchanged(pair, InvalidKept, pair.restart, tuple(range(slow)), wrong)
            self.assert_fails_unchanged(pair, InvalidKept, pair.restart, None, [0])
            self.assertIsInstance(pair.restart(tuple(range(slow)), tuple(range(fast))), list)
            self.assertIs(pair.is_on, True)
            self.assertEqual(pair.pending, ([], []))

    def wrong_parts(self, many):
        """What is no tuple of ascending numbers of so many pending writes."""
        wrong = [thing for thing in OTHER_KINDS if thing not in [(), (0,), (1, 2)]]
        wrong += [(many,), (-1,), (*range(many), many), [*range(many)], (-1, *range(many)), (True,), (False,), ((),)]
        wrong += [(0, 0), (1, 0), (None, 0), (0, "1")]
        if many > 0:
            wrong.append((*range(many), many - 1))
        return wrong

    def test_no_fast_disk_has_no_pending_writes(self):
        pair = new_pair(2, 2, ("through", "keep", "used", 0), UNSYNCED)
        pair.lose_fast()
        pair.write(0, 5)
        pair.cut()
        self.assertEqual(pair.pending, ([(0, 5)], []))
        for wrong in [(0,), (1,), [], None, 0, True]:
            self.assert_fails_unchanged(pair, InvalidKept, pair.restart, (0,), wrong)
        self.assertEqual([pair.restart((0,), ()), pair.block_values, pair.known], [[], [5, 0], {}])


if __name__ == "__main__":
    unittest.main()

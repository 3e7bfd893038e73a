"""Logs: their first errors, and which values are possible behind them."""

import random
import unittest

from keepbefore.errors import InvalidSize
from keepbefore.logs import first_error, possible_values
from tests.helpers import OTHER_KINDS, example_result
from tests.ledger import Ledger, any_log

EXAMPLE = """
>>> from keepbefore.logs import first_error, possible_values
>>> log = [("begin", 0, 5), ("fail",), ("read", 0, 5), ("fail",), ("read", 0, 0)]
>>> [first_error(1, log), possible_values(1, log[:2])]
[4, [[0, 5]]]
"""

# What is no entry of a log of two blocks.
WRONG_ENTRIES = [
    ("read",), ("read", 0), ("read", 2, 0), ("read", -1, 0), ("read", True, 0), ("read", None, 0), ("read", "0", 0),
    ("read", 0, 1000), ("read", 0, -1), ("read", 0, False), ("read", 0, None), ("read", 0, "0"), ("read", 0, (0,)),
    ("read", 0, 0, 0), ("begin",), ("begin", 0), ("begin", 2, 0), ("begin", False, 0), ("begin", 0, 1000),
    ("begin", 0, -1), ("begin", 0, True), ("begin", 0, [5]), ("begin", 0, 0, 0), ("done", 0), ("done", None),
    ("fail", 0), ("fail", ()), ("lost",), ("lost", 2), ("lost", -1), ("lost", True), ("lost", "0"), ("lost", 0, 0),
    ("write", 0, 5), ("Read", 0, 0), ("", 0), (None,), (["fail"],), (("fail",),), (0, 0, 0), ["fail"], ["read", 0, 0],
    "fail", "done", {}, *OTHER_KINDS,
]


class PossibleTest(unittest.TestCase):
    def test_the_example(self):
        result, told = example_result(EXAMPLE)
        self.assertEqual(repr(result), repr(told))

    def test_logs_that_can_be(self):
        source = random.Random(1)
        for number in range(600):
            blocks = source.randint(1, 16) if number % 2 else source.randint(1, 3)
            log, ledger = any_log(source, blocks, source.randint(0, 30), source.choice([3, 999]))
            text = repr(log)
            self.assertIsNone(first_error(blocks, log), log)
            self.assertEqual(repr(possible_values(blocks, log)), repr(ledger.shown()), log)
            self.assertEqual(repr(log), text)

    def test_each_beginning_of_a_log(self):
        source = random.Random(2)
        for _ in range(40):
            log, _ = any_log(source, 2, 30, 5)
            ledger = Ledger(2)
            for many, entry in enumerate(log):
                self.assertEqual(possible_values(2, log[:many]), ledger.shown(), log[:many])
                ledger.note(entry)

    def test_reads_of_possible_and_of_other_values(self):
        source = random.Random(3)
        both = set()
        for _ in range(150):
            blocks = source.randint(1, 3)
            log, ledger = any_log(source, blocks, source.randint(0, 15), 6)
            if ledger.begun is not None:
                log.append(("fail",))
                ledger.note(log[-1])
            for block in range(blocks):
                for value in [*range(9), 998, 999]:
                    is_possible = value in ledger.values[block]
                    both.add(is_possible)
                    longer = [*log, ("read", block, value)]
                    self.assertEqual(first_error(blocks, longer), None if is_possible else len(log), longer)
                    behind = ledger.shown()
                    behind[block] = [value]
                    self.assertEqual(possible_values(blocks, longer), behind if is_possible else None, longer)
        self.assertEqual(both, {True, False})

    def test_writes_under_way_done_and_interrupted(self):
        cases = [
            ([], [[0]]),
            ([("begin", 0, 5)], [[0, 5]]),
            ([("begin", 0, 0)], [[0]]),
            ([("begin", 0, 5), ("done",)], [[5]]),
            ([("begin", 0, 5), ("fail",)], [[0, 5]]),
            ([("begin", 0, 5), ("done",), ("fail",)], [[5]]),
            ([("begin", 0, 5), ("fail",), ("fail",), ("begin", 0, 3)], [[0, 3, 5]]),
            ([("begin", 0, 5), ("fail",), ("begin", 0, 3), ("fail",), ("begin", 0, 5), ("fail",)], [[0, 3, 5]]),
            ([("begin", 0, 5), ("fail",), ("begin", 0, 3), ("fail",), ("read", 0, 5), ("fail",)], [[5]]),
            ([("begin", 0, 5), ("fail",), ("begin", 0, 3), ("done",)], [[3]]),
            ([("fail",), ("fail",)], [[0]]),
        ]
        for log, values in cases:
            self.assertEqual(possible_values(1, log), values, log)
            self.assertEqual(possible_values(2, log), [*values, [0]], log)

    def test_lost_blocks_have_any_value_until_they_are_read_or_written(self):
        lost = [("begin", 1, 7), ("done",), ("lost", 0)]
        cases = [
            ([], [-1]), ([("fail",)], [-1]), ([("begin", 0, 5)], [-1]), ([("begin", 0, 5), ("fail",)], [-1]),
            ([("begin", 0, 5), ("done",)], [5]), ([("read", 0, 999)], [999]), ([("read", 0, 0), ("lost", 0)], [-1]),
            ([("begin", 0, 5), ("fail",), ("read", 0, 6)], [6]), ([("lost", 0)], [-1]),
        ]
        for log, values in cases:
            self.assertEqual(possible_values(2, lost + log), [values, [7]], log)
        for value in (0, 1, 500, 998, 999):
            self.assertIsNone(first_error(2, [*lost, ("read", 0, value), ("read", 0, value)]))
            self.assertEqual(first_error(2, [*lost, ("read", 0, value), ("read", 0, 999 - value)]), 4)

    def test_a_block_that_can_have_any_value_by_interrupted_writes(self):
        log = []
        for value in range(999, 0, -1):
            log += [("begin", 0, value), ("fail",)]
        self.assertEqual(possible_values(1, log), [[-1]])
        self.assertEqual(possible_values(1, log[:-1]), [[-1]])
        self.assertEqual(possible_values(1, log[:-2]), [[0, *range(2, 1000)]])

    def test_the_lists_are_new(self):
        log = [("begin", 0, 5), ("fail",), ("lost", 1)]
        first = possible_values(3, log)
        for some in first:
            some.append(None)
        first.pop()
        self.assertEqual(possible_values(3, log), [[0, 5], [-1], [0]])


class ErrorsTest(unittest.TestCase):
    def assert_error(self, blocks, log, index):
        with self.subTest(log=log):
            self.assertEqual(repr(first_error(blocks, log)), repr(index))
            self.assertIsNone(possible_values(blocks, log))

    def test_entries_of_other_forms(self):
        source = random.Random(4)
        for wrong in WRONG_ENTRIES:
            for _ in range(8):
                log, _ = any_log(source, 2, source.randint(0, 30))
                self.assert_error(2, [*log, wrong], len(log))
                self.assert_error(2, [*log, wrong, wrong, ("done",), ("done",)], len(log))

    def test_blocks_are_those_of_the_log(self):
        for blocks in range(1, 17):
            for entry in (("read", blocks - 1, 0), ("begin", blocks - 1, 999), ("lost", blocks - 1)):
                self.assertIsNone(first_error(blocks, [entry]))
                self.assert_error(blocks, [(entry[0], blocks, *entry[2:])], 0)

    def test_entries_that_cannot_be_now(self):
        source = random.Random(5)
        seen = set()
        for _ in range(300):
            blocks = source.randint(1, 3)
            log, ledger = any_log(source, blocks, source.randint(0, 30), 4)
            block = source.randrange(blocks)
            read = ("read", block, source.randint(0, 5))
            for entry in (read, ("begin", block, 5), ("lost", block), ("done",), ("fail",)):
                can_be = ledger.can_be(entry)
                seen.add((entry[0], ledger.begun is not None, can_be))
                if can_be:
                    self.assertIsNone(first_error(blocks, [*log, entry]))
                else:
                    self.assert_error(blocks, [*log, entry], len(log))
        self.assertEqual(seen, {
            ("read", False, True), ("read", False, False), ("read", True, False), ("begin", False, True),
            ("fail", True, True), ("begin", True, False), ("lost", False, True), ("lost", True, False), ("done", True, True),
            ("done", False, False), ("fail", False, True)})

    def test_nothing_but_done_or_a_failure_while_a_write_is_under_way(self):
        begun = [("begin", 0, 5)]
        entries = [("read", 0, 0), ("read", 0, 5), ("read", 1, 0), ("begin", 0, 6), ("begin", 1, 6), ("lost", 0), ("lost", 1)]
        for entry in entries:
            self.assert_error(2, [*begun, entry], 1)
            self.assert_error(2, [*begun, entry, ("done",)], 1)
        self.assert_error(2, [("done",)], 0)
        self.assert_error(2, [*begun, ("done",), ("done",)], 2)
        self.assert_error(2, [*begun, ("fail",), ("done",)], 2)
        self.assert_error(2, [*begun, ("done",), ("read", 0, 0)], 2)

    def test_no_list(self):
        for thing in [(("fail",),), {}, *OTHER_KINDS]:
            if not isinstance(thing, list):
                self.assert_error(1, thing, 0)

    def test_sizes_come_first(self):
        for wrong in [0, 17, *OTHER_KINDS]:
            for log in ([], None, [("done",)]):
                for call in (first_error, possible_values):
                    with self.subTest(wrong=wrong), self.assertRaises(InvalidSize):
                        call(wrong, log)

    def test_long_logs_end(self):
        source = random.Random(6)
        log, ledger = any_log(source, 16, 5000)
        self.assertIsNone(first_error(16, log))
        self.assertEqual(possible_values(16, log), ledger.shown())


if __name__ == "__main__":
    unittest.main()

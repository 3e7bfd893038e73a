"""What disks can have behind a failure, and which records a restart takes: parts that stories build on."""

import itertools
import random
import unittest

from keepbefore.chances import all_contents, all_kept, all_values, contents_behind
from keepbefore.disks import Disk
from keepbefore.records import newest_dirty, values_after_restart
from tests.helpers import kept_parts
from tests.model import values_left


def any_slot(source):
    if source.random() < 0.2:
        return None
    return (source.randrange(3), source.randrange(1000), source.randrange(4), source.random() < 0.7)


class KeptTest(unittest.TestCase):
    def test_all_parts_in_tuple_order(self):
        for many in range(9):
            self.assertEqual(all_kept(many), sorted(kept_parts(many)))

    def test_contents_against_a_disk(self):
        source = random.Random(1)
        for _ in range(200):
            disks = []
            writes = [(source.randrange(3), source.randrange(4)) for _ in range(source.randint(0, 6))]
            for _ in kept_parts(len(writes)):
                disks.append(Disk(3))
                for write in writes:
                    disks[-1].write(*write)
            lasting, pending = disks[0].lasting, disks[0].pending
            found = set()
            for disk, kept in zip(disks, kept_parts(len(writes))):
                disk.fail(kept)
                self.assertEqual(contents_behind(lasting, pending, kept), disk.contents)
                found.add(disk.contents)
            self.assertEqual(sorted(all_contents(lasting, pending)), sorted(found))

    def test_all_values_by_going_through_all_parts(self):
        source = random.Random(2)
        for _ in range(200):
            lasting = (tuple(source.randrange(3) for _ in range(3)), tuple(any_slot(source) for _ in range(2)))
            pending = ([(source.randrange(3), source.randrange(3)) for _ in range(source.randint(0, 3))],
                       [(source.randrange(2), any_slot(source)) for _ in range(source.randint(0, 3))])
            found = set()
            for slow_kept in kept_parts(len(pending[0])):
                for fast_kept in kept_parts(len(pending[1])):
                    found.add(values_left(contents_behind(lasting[0], pending[0], slow_kept),
                                          contents_behind(lasting[1], pending[1], fast_kept)))
            self.assertEqual(all_values(lasting, pending), sorted(found))


class RecordsTest(unittest.TestCase):
    def test_the_greatest_turn_counts_and_of_equal_ones_the_least_slot(self):
        for first, second, third in itertools.product(range(1, 4), repeat=3):
            records = [(0, 7, first, True), None, (1, 8, 9, True), (0, 5, second, True), (0, 6, third, True)]
            newest = max(first, second, third)
            slot = [first, None, None, second, third].index(newest)
            self.assertEqual(newest_dirty(records), {0: slot, 1: 2})
            self.assertEqual(values_after_restart((1, 2, 3), records), (records[slot][1], 8, 3))

    def test_clean_records_do_not_count(self):
        records = [(0, 7, 5, False), (0, 6, 4, True), (1, 9, 9, False), None]
        self.assertEqual(newest_dirty(records), {0: 1})
        self.assertEqual(values_after_restart((1, 2), records), (6, 2))

    def test_random_records(self):
        source = random.Random(3)
        for _ in range(500):
            records = tuple(any_slot(source) for _ in range(source.randint(0, 6)))
            self.assertEqual(values_after_restart((1, 2, 3), records), values_left((1, 2, 3), records))


if __name__ == "__main__":
    unittest.main()

"""Disks against lists that the tests keep themselves."""

import random
import unittest

from keepbefore.disks import Disk
from keepbefore.errors import InvalidCell, InvalidKept, InvalidSize
from tests.helpers import OTHER_KINDS, example_result, kept_parts

SIZES = [1, 2, 3, 4, 5, 6, 7, 8, 9, 64]

EXAMPLE = """
>>> from keepbefore.disks import Disk
>>> disk = Disk(3)
>>> disk.write(1, 7)
>>> disk.write(2, 9)
>>> disk.fail((1,))
>>> [disk.contents, disk.counts]
[(0, 0, 9), (0, 2, 0)]
"""


class Model:
    """What a disk has, told by lists; what is read is worked out anew each time."""

    def __init__(self, cells, content):
        self.lasting = [content] * cells
        self.pending = []
        self.counts = [0, 0, 0]

    def contents(self):
        contents = list(self.lasting)
        for cell, content in self.pending:
            contents[cell] = content
        return contents

    def read(self, cell):
        self.counts[0] += 1
        return self.contents()[cell]

    def write(self, cell, content):
        self.counts[1] += 1
        self.pending.append((cell, content))

    def sync(self):
        self.counts[2] += 1
        self.lasting = self.contents()
        self.pending = []

    def fail(self, kept):
        self.pending = [self.pending[number] for number in kept]
        self.lasting = self.contents()
        self.pending = []

    def shown(self):
        return (tuple(self.contents()), tuple(self.lasting), self.pending, tuple(self.counts))


def shown(disk):
    return (disk.contents, disk.lasting, disk.pending, disk.counts)


def any_content(source):
    return source.choice([
        None, 0, source.randint(-5, 5), source.randint(0, 999), 10 ** 20,
        (), (source.randint(0, 15), source.randint(0, 999), source.randint(0, 99), source.random() < 0.5),
    ])


def any_kept(source, many):
    return tuple(number for number in range(many) if source.random() < 0.5)


class DiskTestCase(unittest.TestCase):
    # By their texts, so that True is not taken for 1, nor a list for a tuple.
    def assert_same(self, disk, other):
        self.assertEqual(repr(shown(disk)), repr(other))

    def assert_fails_unchanged(self, disk, error, call, *arguments):
        before = repr(shown(disk))
        with self.subTest(arguments=arguments), self.assertRaises(error) as caught:
            call(*arguments)
        self.assertIs(type(caught.exception), error)
        self.assertEqual(repr(shown(disk)), before)


class OrdinaryDiskTest(DiskTestCase):
    def test_the_example(self):
        result, told = example_result(EXAMPLE)
        self.assertEqual(repr(result), repr(told))

    def test_a_new_disk(self):
        for size in SIZES:
            self.assert_same(Disk(size), ((0,) * size, (0,) * size, [], (0, 0, 0)))
            for content in (None, 7, (), (1, 2, 3, True)):
                disk = Disk(size, content=content)
                self.assert_same(disk, ((content,) * size, (content,) * size, [], (0, 0, 0)))
                self.assertEqual(repr(disk.read(size - 1)), repr(content))

    def test_the_content_is_told_by_its_name(self):
        with self.assertRaises(TypeError):
            Disk(3, 7)

    def test_a_disk_that_holds_contents(self):
        contents = [5, None, (1, True)]
        disk = Disk.holding(contents)
        contents.clear()
        self.assertEqual([disk.contents, disk.lasting], [(5, None, (1, True))] * 2)
        self.assertEqual([disk.pending, disk.counts], [[], (0, 0, 0)])
        disk.write(0, 6)
        self.assertEqual([disk.contents, disk.lasting], [(6, None, (1, True)), (5, None, (1, True))])

    def test_reading_shows_pending_writes(self):
        disk = Disk(2)
        self.assertIsNone(disk.write(1, 5))
        self.assertEqual([disk.read(0), disk.read(1)], [0, 5])
        self.assert_same(disk, ((0, 5), (0, 0), [(1, 5)], (2, 1, 0)))
        disk.write(1, None)
        self.assertIsNone(disk.read(1))
        self.assert_same(disk, ((0, None), (0, 0), [(1, 5), (1, None)], (3, 2, 0)))
        self.assertIsNone(disk.sync())
        self.assert_same(disk, ((0, None), (0, None), [], (3, 2, 1)))

    def test_a_write_of_what_is_there_is_pending_too(self):
        disk = Disk(1)
        disk.write(0, 0)
        disk.write(0, 0)
        self.assert_same(disk, ((0,), (0,), [(0, 0), (0, 0)], (0, 2, 0)))

    def test_a_sync_without_pending_writes_counts(self):
        disk = Disk(1)
        disk.sync()
        disk.sync()
        self.assert_same(disk, ((0,), (0,), [], (0, 0, 2)))

    def test_random_steps(self):
        source = random.Random(1)
        for size in SIZES * 6:
            content = any_content(source)
            disk, model = Disk(size, content=content), Model(size, content)
            self.assert_same(disk, model.shown())
            for _ in range(60):
                self.carry_out_any(source, size, disk, model)
                self.assert_same(disk, model.shown())

    def carry_out_any(self, source, size, disk, model):
        word = source.choice(["read", "read", "write", "write", "write", "sync", "fail"])
        cell = source.randrange(size)
        if word == "read":
            self.assertEqual(repr(disk.read(cell)), repr(model.read(cell)))
        elif word == "write":
            content = any_content(source)
            disk.write(cell, content)
            model.write(cell, content)
        elif word == "sync":
            disk.sync()
            model.sync()
        elif source.random() < 0.3:
            kept = any_kept(source, len(model.pending))
            disk.fail(kept)
            model.fail(kept)

    def test_showing_counts_nothing_and_repeats(self):
        disk = Disk(3)
        disk.read(0)
        disk.write(1, (1, True))
        disk.sync()
        disk.write(2, None)
        for _ in range(3):
            self.assert_same(disk, ((0, (1, True), None), (0, (1, True), 0), [(2, None)], (1, 2, 1)))

    def test_what_a_caller_changes_stays_outside(self):
        disk = Disk(2)
        disk.write(0, 5)
        disk.write(1, 6)
        pending = disk.pending
        pending.append((0, 9))
        pending[0] = (1, 8)
        self.assert_same(disk, ((5, 6), (0, 0), [(0, 5), (1, 6)], (0, 2, 0)))
        disk.pending.clear()
        self.assert_same(disk, ((5, 6), (0, 0), [(0, 5), (1, 6)], (0, 2, 0)))
        disk.fail((0, 1))
        self.assert_same(disk, ((5, 6), (5, 6), [], (0, 2, 0)))

    def test_what_was_shown_does_not_change_later(self):
        disk = Disk(1)
        disk.write(0, 5)
        pending = disk.pending
        disk.write(0, 6)
        disk.sync()
        self.assertEqual(pending, [(0, 5)])


class FailureTest(DiskTestCase):
    def test_each_part_of_the_pending_writes(self):
        writes = [(0, 1), (1, 2), (0, 3), (2, None), (0, (4, True)), (1, 5)]
        for many in range(len(writes) + 1):
            for kept in kept_parts(many):
                disk, model = Disk(3), Model(3, 0)
                for taker in (disk, model):
                    taker.write(1, 9)
                    taker.sync()
                    taker.read(1)
                    for cell, content in writes[:many]:
                        taker.write(cell, content)
                    taker.fail(kept)
                self.assert_same(disk, model.shown())
                self.assertEqual([disk.pending, disk.counts], [[], (1, many + 1, 1)])

    def test_of_several_writes_to_a_cell_the_last_one_kept_stands(self):
        for kept, content in [((), 0), ((0,), 5), ((1,), 6), ((0, 1), 6), ((0, 2), 7), ((0, 1, 2), 7)]:
            disk = Disk(1)
            for value in (5, 6, 7):
                disk.write(0, value)
            self.assertIsNone(disk.fail(kept))
            self.assert_same(disk, ((content,), (content,), [], (0, 3, 0)))
            self.assertEqual(disk.read(0), content)

    def test_a_failure_of_64_cells(self):
        source = random.Random(2)
        for _ in range(20):
            disk, model = Disk(64), Model(64, 0)
            for number in range(150):
                cell = source.randrange(64)
                disk.write(cell, number)
                model.write(cell, number)
            kept = any_kept(source, 150)
            disk.fail(kept)
            model.fail(kept)
            self.assert_same(disk, model.shown())

    def test_numbers_count_the_writes_behind_a_sync_or_a_failure(self):
        disk = Disk(2)
        disk.write(0, 1)
        disk.sync()
        disk.write(0, 2)
        disk.write(1, 3)
        disk.fail((1,))
        self.assert_same(disk, ((1, 3), (1, 3), [], (0, 3, 1)))
        disk.write(0, 4)
        disk.fail((0,))
        self.assert_same(disk, ((4, 3), (4, 3), [], (0, 4, 1)))

    def test_a_failure_with_nothing_pending_changes_nothing(self):
        disk = Disk(2, content=None)
        disk.write(1, 3)
        disk.sync()
        disk.fail(())
        self.assert_same(disk, ((None, 3), (None, 3), [], (0, 1, 1)))


class TwinsTest(DiskTestCase):
    def test_disks_synced_at_unlike_times_show_the_same(self):
        source = random.Random(3)
        for _ in range(200):
            size = source.randint(1, 9)
            early, late = Disk(size), Disk(size)
            for _ in range(source.randint(1, 4)):
                self.write_and_sync_unlike(source, size, early, late)
                self.fail_alike(source, early, late)

    def write_and_sync_unlike(self, source, size, early, late):
        for _ in range(source.randrange(12)):
            cell, content = source.randrange(size), any_content(source)
            early.write(cell, content)
            late.write(cell, content)
            if source.random() < 0.2:
                early.sync()
            if source.random() < 0.2:
                late.sync()
            self.assertEqual(repr(early.contents), repr(late.contents))

    def fail_alike(self, source, early, late):
        """Both keep what only one of them has synced, and the same of the writes behind."""
        least = min(len(early.pending), len(late.pending))
        behind = any_kept(source, least)
        for disk in (early, late):
            ahead = len(disk.pending) - least
            disk.fail((*range(ahead), *[ahead + number for number in behind]))
            self.assertEqual(disk.pending, [])
        self.assertEqual(repr([early.contents, early.lasting]), repr([late.contents, late.lasting]))

    def test_a_failure_that_keeps_all_is_a_sync_but_for_the_count(self):
        source = random.Random(4)
        for _ in range(100):
            size = source.randint(1, 9)
            failing, syncing = Disk(size), Disk(size)
            syncs = 0
            for _ in range(source.randint(1, 5)):
                for _ in range(source.randrange(6)):
                    cell, content = source.randrange(size), any_content(source)
                    failing.write(cell, content)
                    syncing.write(cell, content)
                failing.fail(tuple(range(len(failing.pending))))
                syncing.sync()
                syncs += 1
                self.assertEqual(repr(shown(failing)[:3]), repr(shown(syncing)[:3]))
            self.assertEqual([failing.counts[2], syncing.counts[2]], [0, syncs])
            self.assertEqual(failing.counts[:2], syncing.counts[:2])

    def test_a_twin_to_which_only_the_kept_part_is_written(self):
        source = random.Random(5)
        for _ in range(100):
            size = source.randint(1, 9)
            disk, twin = Disk(size), Disk(size)
            for _ in range(source.randint(1, 5)):
                for _ in range(source.randrange(8)):
                    disk.write(source.randrange(size), any_content(source))
                pending = disk.pending
                kept = any_kept(source, len(pending))
                disk.fail(kept)
                for number in kept:
                    twin.write(*pending[number])
                twin.sync()
                self.assertEqual(repr(shown(disk)[:3]), repr(shown(twin)[:3]))


class WrongInputTest(DiskTestCase):
    def test_sizes(self):
        for cells in [0, 65, 66, 1000, *OTHER_KINDS]:
            with self.subTest(cells=cells), self.assertRaises(InvalidSize):
                Disk(cells)
            with self.subTest(cells=cells), self.assertRaises(InvalidSize):
                Disk(cells, content=None)

    def test_sizes_at_the_edges(self):
        self.assertEqual([len(Disk(1).contents), len(Disk(64).contents)], [1, 64])

    def test_cells(self):
        for size in SIZES:
            disk = Disk(size)
            disk.write(0, 5)
            disk.read(0)
            disk.sync()
            disk.write(size - 1, 6)
            for cell in [size, size + 1, -size, *OTHER_KINDS]:
                self.assert_fails_unchanged(disk, InvalidCell, disk.read, cell)
                self.assert_fails_unchanged(disk, InvalidCell, disk.write, cell, 7)

    def test_kept_writes(self):
        disk = Disk(3)
        disk.write(0, 1)
        disk.sync()
        for cell in range(3):
            disk.write(cell, 9)
        odd = [(3,), (0, 3), (0, 1, 2, 3), (-1,), (-1, 0), (0, 0), (1, 1), (1, 0), (0, 2, 1), (2, 1, 0), (0, 1, 1)]
        odd += [(thing,) for thing in OTHER_KINDS] + [(0, thing) for thing in OTHER_KINDS]
        odd += [True, False, None, 0, 1, -1, "", "0", "012", [], [0], [0, 1, 2], (False, 1), (0, (1,))]
        for kept in odd:
            self.assert_fails_unchanged(disk, InvalidKept, disk.fail, kept)
        disk.fail((0, 1, 2))
        self.assertEqual(disk.contents, (9, 9, 9))

    def test_kept_writes_without_pending_ones(self):
        disk = Disk(2)
        disk.write(0, 1)
        disk.sync()
        for kept in [(0,), (1,), (-1,), [], None, 0, "", True]:
            self.assert_fails_unchanged(disk, InvalidKept, disk.fail, kept)

    def test_kept_writes_that_were_lost_already(self):
        disk = Disk(2)
        disk.write(0, 1)
        disk.write(1, 2)
        disk.fail((1,))
        self.assert_fails_unchanged(disk, InvalidKept, disk.fail, (0,))

    def test_properties_are_only_shown(self):
        disk = Disk(1)
        for name in ("contents", "lasting", "pending", "counts"):
            with self.assertRaises(AttributeError):
                setattr(disk, name, ())

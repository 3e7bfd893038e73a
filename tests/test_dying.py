"""Fast and slow disks that die: what is lost, what is written to a new disk, and pairs without a fast disk."""

import random
import unittest

from keepbefore.errors import HasFastDisk, NoFastDisk
from keepbefore.rules import Rules
from tests.helpers import SAFE, TRIPLES, any_recipes
from tests.twins import TwinsTestCase, any_request, any_rules, new_pair, shown, told


def some_recipes(source):
    return SAFE if source.random() < 0.5 else any_recipes(source)


class DyingTest(TwinsTestCase):
    def test_both_disks_die_in_turn_also_while_the_power_fails(self):
        source = random.Random(1)
        for _ in range(500):
            self.start(source.randint(1, 6), source.randint(1, 5), any_rules(source), some_recipes(source))
            for _ in range(30):
                self.do_any(source)

    def do_any(self, source):
        if not self.pair.is_on:
            self.both_restart(source)
        word = source.choice(["request"] * 8 + ["lose_fast", "give_fast", "lose_slow"] * 2 + [
            "fail_at", "cut", "settle", "set_rules", "clean_up", "forget"])
        arguments = {"give_fast": [source.randint(1, 8)], "fail_at": [source.randint(0, 15)],
                     "set_rules": [any_rules(source)], "clean_up": [source.randint(0, 8)],
                     "forget": [source.randrange(self.model.blocks)]}
        if word == "request":
            self.both_request(source)
        else:
            self.both(word, *arguments.get(word, []))

    def test_all_requests_and_methods_without_a_fast_disk(self):
        source = random.Random(2)
        for triple in TRIPLES:
            for _ in range(8):
                self.start(4, 3, (*triple, source.randint(0, 8)), some_recipes(source))
                for _ in range(source.randint(0, 6)):
                    self.both_request(source)
                self.both("lose_fast")
                for _ in range(12):
                    self.both_request(source)
                    self.assertEqual([self.pair.known, self.pair.dirty, self.pair.pending[1]], [{}, [], []])
                self.do_all_others(source)

    def do_all_others(self, source):
        self.assertEqual(self.value_of_both("clean_up", 8), [])
        self.assertIs(self.value_of_both("forget", 0), False)
        self.both("settle")
        self.both("set_rules", any_rules(source))
        self.both_request(source)
        self.assertEqual(self.value_of_both("lose_slow"), [0, 1, 2, 3])
        self.assertEqual(self.pair.block_values, [0] * 4)
        self.assert_fails_unchanged(self.pair, NoFastDisk, self.pair.lose_fast)
        self.both_request(source)
        self.both("cut")
        self.assertEqual(self.value_of_both("restart", (), ()), [])
        self.both_request(source)
        self.both("give_fast", source.randint(1, 8))
        self.assert_fails_unchanged(self.pair, HasFastDisk, self.pair.give_fast, 3)
        for _ in range(6):
            self.both_request(source)

    def test_by_the_rule_back_the_recipe_for_through_is_used(self):
        recipes = (("slow", "done"), ("sync slow", "fast", "done"), ("sync slow", "sync slow", "done"), ())
        for writing, counts in (("through", (0, 1, 0)), ("back", (0, 1, 0)), ("around", (0, 0, 2))):
            pair = new_pair(2, 2, (writing, "keep", "used", 0), recipes)
            self.assertEqual(pair.lose_fast(), {})
            self.assertIs(pair.write(0, 5), False)
            self.assertEqual(pair.counts, (*counts, 0, 0, 0))

    def test_without_a_fast_disk_reads_keep_nothing(self):
        pair = new_pair(2, 2, ("through", "keep", "used", 0))
        pair.lose_fast()
        pair.write(1, 5)
        self.assertEqual([pair.read(1), pair.read(1), pair.hits, pair.requests], [5, 5, 0, 3])
        self.assertEqual(pair.counts, (2, 1, 1, 0, 0, 0))


class LosingFastTest(unittest.TestCase):
    def used_pair(self, source, rules):
        pair = new_pair(6, source.randint(1, 5), rules)
        for _ in range(20):
            name, *arguments = any_request(source, 6)
            getattr(pair, name)(*arguments)
        return pair

    def test_the_lost_values(self):
        source = random.Random(1)
        for _ in range(200):
            pair = self.used_pair(source, ("back", *any_rules(source)[1:]))
            values, dirty = pair.block_values, pair.dirty
            lost = pair.lose_fast()
            self.assertEqual(list(lost.items()), [(block, values[block]) for block in dirty])
            self.assertEqual([pair.block_values[block] for block in range(6) if block not in dirty],
                             [values[block] for block in range(6) if block not in dirty])
            lost[9] = 9
            self.assertEqual([pair.known, pair.dirty], [{}, []])

    def test_what_needs_no_fast_disk_loses_nothing(self):
        source = random.Random(2)
        for _ in range(60):
            rest = any_rules(source)[1:3]
            for writing, bound in (("through", 8), ("around", 8), ("back", 0)):
                pair = self.used_pair(source, (writing, *rest, bound))
                values = pair.block_values
                self.assertEqual([pair.lose_fast(), pair.block_values], [{}, values])
                self.assertEqual([pair.read(block) for block in range(6)], values)

    def test_cleaned_pairs_need_no_fast_disk(self):
        source = random.Random(3)
        for _ in range(100):
            pair = self.used_pair(source, any_rules(source))
            values, dirty = pair.block_values, pair.dirty
            self.assertEqual(sorted(pair.clean_up(8)), dirty)
            self.assertEqual([pair.lose_fast(), pair.block_values], [{}, values])
            pair.cut()
            self.assertEqual([pair.restart((), ()), pair.block_values], [[], values])

    def test_pending_writes_of_the_slow_disk_stay(self):
        recipes = (("slow", "fast", "done"), ("fast", "done"), ("slow", "done"), ())
        pair = new_pair(2, 2, ("back", "keep", "used", 8), recipes)
        pair.write(0, 5)
        pair.set_rules(Rules("through", "keep", "used", 8))
        pair.write(1, 6)
        self.assertEqual(pair.pending, ([(1, 6)], [(0, (0, 5, 1, True))]))
        self.assertEqual(pair.lose_fast(), {0: 5})
        self.assertEqual([pair.pending, pair.block_values], [([(1, 6)], []), [0, 6]])
        pair.cut()
        self.assertEqual([pair.restart((0,), ()), pair.block_values], [[], [0, 6]])

    def test_a_new_fast_disk_has_and_knows_nothing(self):
        pair = new_pair(3, 2, ("back", "keep", "used", 8))
        pair.write(0, 5)
        pair.lose_fast()
        pair.give_fast(4)
        self.assertEqual(repr(shown(pair)[:2] + shown(pair)[-3:]),
                         repr([([], []), (0, 0, 0, 0, 1, 2), [0, 0, 0], {}, []]))
        for block in (0, 1, 2):
            pair.write(block, 7)
        # Turns go on.
        self.assertEqual(pair.known, {0: (0, 7, 2, True), 1: (1, 7, 3, True), 2: (2, 7, 4, True)})
        pair.cut()
        ahead = pair.counts
        pair.restart((), ())
        self.assertEqual(pair.counts[3] - ahead[3], 4)

    def test_the_next_turn_is_1_behind_a_restart_without_a_fast_disk(self):
        pair = new_pair(1, 1, ("back", "keep", "used", 8))
        pair.write(0, 5)
        pair.lose_fast()
        pair.cut()
        pair.restart((), ())
        pair.give_fast(1)
        pair.write(0, 6)
        self.assertEqual(pair.known, {0: (0, 6, 1, True)})

    def test_counts_of_dead_disks_still_count(self):
        pair = new_pair(1, 1, ("back", "keep", "used", 8))
        pair.write(0, 5)
        pair.read(0)
        pair.clean_up(1)
        counts = pair.counts
        self.assertEqual(counts, (0, 1, 1, 1, 2, 3))
        for _ in range(3):
            pair.lose_fast()
            self.assertEqual(pair.counts, counts)
            pair.lose_slow()
            self.assertEqual(pair.counts, counts)
            pair.give_fast(2)
            self.assertEqual(pair.counts, counts)
        pair.read(0)
        self.assertEqual(pair.counts, (1, 1, 1, 1, 3, 3))


class LosingSlowTest(TwinsTestCase):
    def test_the_lost_blocks_and_what_is_written_to_the_new_disk(self):
        source = random.Random(1)
        for _ in range(300):
            pair = new_pair(6, source.randint(1, 6), any_rules(source))
            for _ in range(20):
                name, *arguments = any_request(source, 6)
                getattr(pair, name)(*arguments)
                if source.random() < 0.1:
                    pair.set_rules(Rules(*any_rules(source)))
            pair.settle()
            values, known, ahead = pair.block_values, pair.known, pair.counts
            names = [record[0] for record in known.values()]
            lost = pair.lose_slow()
            self.assertEqual(lost, [block for block in range(6) if block not in names])
            self.assertEqual(pair.block_values, [values[block] if block in names else 0 for block in range(6)])
            self.assertEqual([pair.known, pair.pending], [known, ([], [])])
            clean = [record[0] for record in known.values() if not record[3]]
            self.assertEqual([after - before for after, before in zip(pair.counts, ahead)],
                             [0, len(clean), len(clean) > 0, 0, 0, 0])
            pair.lose_fast()
            self.assertEqual(pair.block_values, [values[block] if block in clean else 0 for block in range(6)])

    def test_values_are_written_in_ascending_order_of_their_blocks(self):
        for steps in range(5):
            pair = new_pair(5, 4, ("through", "keep", "used", 0))
            for block in (4, 0, 3):
                pair.write(block, block + 1)
                pair.read(block)
            pair.settle()
            pair.fail_at(steps)
            if steps < 4:
                self.assertEqual(repr(told(pair.lose_slow)), repr(("PowerFailed", {"is_done": False})))
                self.assertEqual(pair.pending, ([(0, 1), (3, 4), (4, 5)][:steps], []))
            else:
                self.assertEqual(pair.lose_slow(), [1, 2])
                self.assertEqual(pair.block_values, [1, 0, 0, 4, 5])

    def test_pending_writes_of_the_old_slow_disk_are_gone(self):
        recipes = (("slow", "done"), ("fast", "done"), ("slow", "done"), ())
        pair = new_pair(3, 2, ("through", "keep", "used", 0), recipes)
        pair.write(0, 5)
        self.assertEqual(pair.pending, ([(0, 5)], []))
        self.assertEqual(pair.lose_slow(), [0, 1, 2])
        self.assertEqual([pair.pending, pair.counts, pair.block_values], [([], []), (0, 1, 0, 0, 0, 0), [0, 0, 0]])

    def test_dirty_records_stay_dirty_and_are_not_written(self):
        pair = new_pair(2, 2, ("back", "keep", "used", 8))
        pair.write(0, 5)
        pair.read(1)
        self.assertEqual(pair.lose_slow(), [])
        self.assertEqual([pair.dirty, pair.block_values, pair.counts], [[0], [5, 0], (1, 1, 1, 0, 2, 2)])
        self.assertEqual(pair.lose_fast(), {0: 5})

    def test_if_the_power_fails_in_it_the_old_disk_is_gone_all_the_same(self):
        pair = new_pair(2, 2, ("through", "keep", "used", 0))
        for block in (0, 1):
            pair.write(block, 5)
            pair.read(block)
        pair.settle()
        pair.fail_at(1)
        told(pair.lose_slow)
        self.assertEqual(pair.pending, ([(0, 5)], []))
        self.assertEqual([pair.restart((), ()), pair.block_values], [[], [0, 0]])


if __name__ == "__main__":
    unittest.main()

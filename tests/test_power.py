"""Failing power and restarts: which steps are done, what is kept, and what is known then."""

import random
import unittest

from keepbefore.errors import PowerFailed
from keepbefore.rules import Rules
from tests.helpers import SAFE, any_recipes, kept_parts
from tests.model import contents_of
from tests.twins import TwinsTestCase, any_kept, any_request, any_rules, new_pair, shown, steps_of, told

# With these, writing back leaves several dirty records of one block.
LEAVING = [
    (SAFE[0], ("fast", "sync fast", "done"), SAFE[2], SAFE[3]),
    (SAFE[0], ("fast", "done"), SAFE[2], ("slow",)),
    (("slow", "done"), ("done", "fast", "slow"), ("done",), ()),
    (SAFE[0], ("fast", "sync fast", "done", "free"), SAFE[2], ("slow", "sync slow")),
]


def some_recipes(source):
    return source.choice([SAFE, SAFE, *LEAVING, any_recipes(source), any_recipes(source), any_recipes(source)])


class StepsTest(TwinsTestCase):
    def test_the_power_fails_ahead_of_the_told_step(self):
        source = random.Random(1)
        for _ in range(150):
            seed, recipes, rules = source.random(), some_recipes(source), any_rules(source)
            request = any_request(source, 4)
            self.begin_any(seed, rules, recipes)
            ahead = steps_of(self.pair)
            self.both(*request)
            many = steps_of(self.pair) - ahead
            for steps in range(many + 2):
                self.begin_any(seed, rules, recipes)
                self.both("fail_at", steps)
                kind, attributes = self.both(*request)
                self.assertEqual(kind == "PowerFailed", steps < many)
                self.assertEqual(self.pair.is_on, steps >= many)
                self.assertEqual(steps_of(self.pair) - ahead, min(steps, many))
                if self.pair.is_on:
                    self.both("cut")
                self.both_restart(source)

    def begin_any(self, seed, rules, recipes):
        source = random.Random(seed)
        self.start(4, 3, rules, recipes)
        for _ in range(source.randint(0, 10)):
            self.both_request(source)

    def test_whether_the_write_was_done(self):
        source = random.Random(2)
        for _ in range(200):
            recipes, rules = any_recipes(source), (source.choice(["through", "around"]), "keep", "used", 8)
            recipe = recipes[0 if rules[0] == "through" else 2]
            # On a new pair nothing is known, so only these words are steps.
            steps = [word for word in recipe if word in ("slow", "sync slow", "sync fast", "done")]
            place = steps.index("done")
            for many in range(len(steps) - 1):
                pair = new_pair(2, 2, rules, recipes)
                pair.fail_at(many)
                self.assertEqual(repr(told(pair.write, 1, 5)), repr(("PowerFailed", {"is_done": many >= place})))

    def test_whether_it_was_done_while_a_slot_is_taken_and_while_records_are_cleaned(self):
        # Four steps to take the slot, two ahead of "done", one behind it, and four to clean.
        for steps in range(11):
            pair = new_pair(3, 1, ("back", "keep", "used", 8))
            pair.write(0, 5)
            pair.set_rules(Rules("back", "keep", "used", 0))
            pair.fail_at(steps)
            self.assertEqual(repr(told(pair.write, 1, 6)), repr(("PowerFailed", {"is_done": steps >= 6})))
        pair = new_pair(3, 1, ("back", "keep", "used", 8))
        pair.write(0, 5)
        pair.set_rules(Rules("back", "keep", "used", 0))
        pair.fail_at(11)
        self.assertIs(pair.write(1, 6), False)

    def test_other_calls_are_never_done_writes(self):
        for name, arguments in (("read", [2]), ("clean_up", [8]), ("settle", []), ("lose_slow", [])):
            pair = new_pair(3, 2, ("back", "keep", "used", 8))
            pair.read(0)
            pair.write(1, 5)
            pair.fail_at(0)
            if name == "read":
                pair.fail_at(None)
                pair.write(0, 5)
                pair.fail_at(2)
            self.assertEqual(repr(told(getattr(pair, name), *arguments)), repr(("PowerFailed", {"is_done": False})))

    def test_a_failure_in_each_other_call(self):
        source = random.Random(3)
        for _ in range(400):
            self.begin_any(source.random(), any_rules(source), some_recipes(source))
            self.both("fail_at", source.randint(0, 9))
            name, *arguments = source.choice([("clean_up", source.randint(0, 8)), ("settle",), ("lose_slow",)])
            self.both(name, *arguments)
            if self.pair.is_on:
                self.both("settle")
            if self.pair.is_on:
                self.both("cut")
            self.both_restart(source)

    def test_failures_set_beyond_the_last_step_and_amid_requests(self):
        source = random.Random(4)
        for _ in range(150):
            self.begin_any(source.random(), any_rules(source), some_recipes(source))
            many = source.choice([0, 3, 17, 40, 999])
            self.both("fail_at", many)
            ahead = steps_of(self.pair)
            for _ in range(12):
                self.both_request(source)
            self.assertEqual(steps_of(self.pair) - ahead == many, not self.pair.is_on or self.model.left == 0)

    def test_a_call_without_steps_does_not_fail(self):
        pair = new_pair(3, 2, ("back", "keep", "used", 8))
        pair.write(0, 5)
        pair.read(1)
        pair.fail_at(0)
        self.assertEqual([pair.read(0), pair.read(1), pair.clean_up(0), pair.forget(1)], [5, 0, [], True])
        pair.set_rules(Rules("back", "pass", "used", 8))
        self.assertEqual([pair.read(2), pair.is_on], [0, True])
        self.assertEqual(repr(told(pair.settle)), repr(("PowerFailed", {"is_done": False})))

    def test_the_last_failure_that_was_set_counts(self):
        pair = new_pair(1, 1, ("through", "keep", "used", 8))
        pair.fail_at(0)
        pair.fail_at(None)
        pair.settle()
        pair.fail_at(0)
        pair.fail_at(3)
        pair.settle()
        with self.assertRaises(PowerFailed):
            pair.settle()
        self.assertEqual(pair.counts, (0, 0, 3, 0, 0, 2))
        pair.restart((), ())
        # None is set behind a restart.
        for _ in range(4):
            pair.settle()

    def test_behind_a_cut_no_failure_is_set_either(self):
        pair = new_pair(1, 1, ("through", "keep", "used", 8))
        pair.fail_at(0)
        self.assertIsNone(pair.cut())
        pair.restart((), ())
        pair.settle()
        self.assertIs(pair.is_on, True)

    def test_an_interrupted_request_counts_from_its_beginning(self):
        pair = new_pair(2, 2, ("through", "keep", "used", 0))
        pair.read(0)
        pair.fail_at(0)
        with self.assertRaises(PowerFailed):
            pair.write(0, 5)
        self.assertEqual([pair.requests, pair.hits], [2, 1])

    def test_an_interrupted_write_uses_its_turn(self):
        recipes = (SAFE[0], ("fast", "sync fast", "done"), *SAFE[2:])
        pair = new_pair(2, 4, ("back", "keep", "used", 8), recipes)
        pair.write(0, 5)
        pair.fail_at(1)
        with self.assertRaises(PowerFailed):
            pair.write(0, 6)
        self.assertEqual(pair.pending, ([], [(1, (0, 6, 2, True))]))
        pair.restart((), (0,))
        pair.write(1, 7)
        self.assertEqual(sorted(pair.known.values()), [(0, 6, 2, True), (1, 7, 3, True)])


class RestartTest(TwinsTestCase):
    def test_random_failures_and_cuts_with_any_part_kept(self):
        source = random.Random(1)
        for _ in range(500):
            slots = source.randint(1, 6)
            self.start(source.randint(1, 6), slots, any_rules(source), some_recipes(source))
            for _ in range(4):
                self.go_on_until_off(source)
                self.check_restart(source)

    def go_on_until_off(self, source):
        if source.random() < 0.7:
            self.both("fail_at", source.randint(0, 30))
        for _ in range(source.randint(0, 12)):
            if self.pair.is_on:
                self.both_request(source)
        if self.pair.is_on:
            self.both("cut")

    def check_restart(self, source):
        kept = any_kept(source, self.model)
        waiting = [contents_of(self.model.lasting[name], [writes[at] for at in part])
                   for name, writes, part in zip(("slow", "fast"), self.pair.pending, kept)]
        ahead = self.pair.counts
        told_dirty = self.value_of_both("restart", *kept)
        records = [record for record in waiting[1] if record is not None]
        dirty = [record for record in records if record[3]]
        names = {record[0] for record in dirty}
        self.assertEqual(told_dirty, sorted(names))
        self.assertEqual(self.pair.dirty, told_dirty)
        self.assertEqual({record[0] for record in self.pair.known.values()}, names)
        freed = len(dirty) - len(names)
        self.assertEqual([after - before for after, before in zip(self.pair.counts, ahead)],
                         [0, 0, 0, len(waiting[1]), freed, freed > 0])
        newest = [max((record for record in dirty if record[0] == name), key=lambda record: record[2]) for name in names]
        self.assertEqual(sorted(self.pair.known.values()), sorted(newest))

    def test_of_several_dirty_records_of_a_block_the_newest_is_known_and_the_others_are_freed(self):
        pair = new_pair(2, 5, ("back", "keep", "used", 8), LEAVING[0])
        for value in (5, 6, 7):
            pair.write(0, value)
        pair.write(1, 8)
        pair.cut()
        ahead = pair.counts
        self.assertEqual(pair.restart((), ()), [0, 1])
        self.assertEqual(sorted(pair.known.values()), [(0, 7, 3, True), (1, 8, 4, True)])
        self.assertEqual([after - before for after, before in zip(pair.counts, ahead)][:4], [0, 0, 0, 5])
        pair.write(0, 9)
        self.assertIn((0, 9, 5, True), pair.known.values())

    def test_freed_slots_stay_free(self):
        pair = new_pair(1, 3, ("back", "keep", "used", 8), LEAVING[0])
        pair.write(0, 5)
        pair.write(0, 6)
        self.assertEqual(pair.known, {1: (0, 6, 2, True)})
        pair.cut()
        ahead = pair.counts
        self.assertEqual([pair.restart((), ()), pair.known], [[0], {1: (0, 6, 2, True)}])
        self.assertEqual([after - before for after, before in zip(pair.counts, ahead)], [0, 0, 0, 3, 1, 1])
        pair.cut()
        ahead = pair.counts
        self.assertEqual([pair.restart((), ()), pair.known], [[0], {1: (0, 6, 2, True)}])
        self.assertEqual([after - before for after, before in zip(pair.counts, ahead)], [0, 0, 0, 3, 0, 0])

    def test_clean_records_are_not_known_but_their_turns_count(self):
        pair = new_pair(2, 2, ("back", "keep", "used", 8))
        pair.write(0, 5)
        pair.write(0, 6)
        pair.clean_up(8)
        pair.cut()
        self.assertEqual([pair.restart((), ()), pair.known, pair.block_values], [[], {}, [6, 0]])
        pair.write(1, 7)
        self.assertEqual(pair.known, {0: (1, 7, 3, True)})

    def test_the_next_turn_is_1_if_no_record_was_read(self):
        pair = new_pair(2, 2, ("around", "keep", "used", 8))
        for value in (5, 6, 7):
            pair.write(0, value)
        pair.cut()
        pair.restart((), ())
        pair.set_rules(Rules("back", "keep", "used", 8))
        pair.write(1, 7)
        self.assertEqual(pair.known, {0: (1, 7, 1, True)})

    def test_known_records_came_and_were_used_with_the_last_request(self):
        for choice in ("used", "came", "rare"):
            for often in range(3):
                self.start(6, 3, ("back", "keep", choice, 8))
                for block in (0, 1, 0, 1, 1):
                    self.both("write", block, 5)
                self.both("cut")
                self.both("restart", (), ())
                self.both("clean_up", 8)
                for block in [1] * often + [2, 3, 4, 2, 5]:
                    self.both("read", block)

    def test_a_pair_without_requests(self):
        for choice in ("used", "came", "rare"):
            self.start(3, 2, ("back", "keep", choice, 8))
            self.both("cut")
            self.assertEqual(self.value_of_both("restart", (), ()), [])
            self.assertEqual(self.pair.counts, (0, 0, 0, 2, 0, 0))
            for block in (0, 1, 2, 0, 1):
                self.both("read", block)

    def test_rules_hits_and_requests_stay(self):
        pair = new_pair(2, 2, ("through", "keep", "rare", 3))
        for block in (0, 1, 0):
            pair.read(block)
        pair.cut()
        self.assertEqual([pair.hits, pair.requests, pair.rules], [1, 3, Rules("through", "keep", "rare", 3)])
        pair.restart((), ())
        self.assertEqual([pair.hits, pair.requests, pair.rules], [1, 3, Rules("through", "keep", "rare", 3)])

    def test_what_restart_returns_may_be_changed(self):
        pair = new_pair(1, 1, ("back", "keep", "used", 8))
        pair.write(0, 5)
        pair.cut()
        pair.restart((), ()).append(9)
        self.assertEqual([pair.dirty, pair.known], [[0], {0: (0, 5, 1, True)}])


class KeptTest(unittest.TestCase):
    """Pairs that did the same, and then keep different parts."""

    def same_pairs(self, source, many):
        recipes, rules, slots = any_recipes(source), any_rules(source), source.randint(1, 4)
        requests = [any_request(source, 3) for _ in range(source.randint(0, 6))]
        pairs = [new_pair(3, slots, rules, recipes) for _ in range(many)]
        for pair in pairs:
            for name, *arguments in requests:
                getattr(pair, name)(*arguments)
        return pairs

    def values_and_records(self, pair):
        return [pair.block_values, pair.known, pair.dirty, pair.pending, pair.hits, pair.requests]

    def test_all_kept_against_settled_ahead_of_the_cut(self):
        source = random.Random(1)
        for _ in range(400):
            pair, settled = self.same_pairs(source, 2)
            settled.settle()
            for each in (pair, settled):
                each.cut()
                each.restart(*[tuple(range(len(writes))) for writes in each.pending])
            self.assertEqual(self.values_and_records(pair), self.values_and_records(settled))
            self.assertEqual([after - before for after, before in zip(settled.counts, pair.counts)], [0, 0, 1, 0, 0, 1])
            for each in (pair, settled):
                each.write(0, 5)
            self.assertEqual(self.values_and_records(pair), self.values_and_records(settled))

    def test_nothing_kept_against_a_pair_cut_again(self):
        source = random.Random(2)
        for _ in range(300):
            [pair] = self.same_pairs(source, 1)
            pair.cut()
            pair.restart((), ())
            lasting = self.values_and_records(pair)
            pair.cut()
            self.assertEqual(pair.pending, ([], []))
            pair.restart((), ())
            self.assertEqual(self.values_and_records(pair), lasting)

    def test_nothing_kept_leaves_what_was_synced(self):
        recipes = (("slow", "done"), ("fast", "done"), ("slow", "done"), ())
        pair = new_pair(3, 3, ("back", "keep", "used", 8), recipes)
        pair.write(0, 5)
        pair.set_rules(Rules("through", "keep", "used", 8))
        pair.write(1, 6)
        pair.settle()
        pair.write(2, 7)
        pair.set_rules(Rules("back", "keep", "used", 8))
        pair.write(1, 8)
        self.assertEqual([pair.block_values, pair.pending], [[5, 8, 7], ([(2, 7)], [(1, (1, 8, 4, True))])])
        pair.cut()
        self.assertEqual([pair.restart((), ()), pair.block_values, pair.known], [[0], [5, 6, 0], {0: (0, 5, 1, True)}])

    def test_all_mixtures_of_two_parts_kept_of_each_disk(self):
        source = random.Random(3)
        for _ in range(150):
            pairs = self.same_pairs(source, 4)
            parts = [[source.choice(kept_parts(len(writes))) for _ in range(2)] for writes in pairs[0].pending]
            left = {}
            for pair in pairs:
                pair.cut()
                kept = (parts[0][len(left) // 2], parts[1][len(left) % 2])
                pair.restart(*kept)
                left[len(left)] = pair
            for fast in (0, 1):
                self.assertEqual(left[fast].known, left[2 + fast].known)
                self.assertEqual(left[fast].counts, left[2 + fast].counts)
            for slow in (0, 1):
                one, two = left[2 * slow], left[2 * slow + 1]
                for block in range(3):
                    if block not in one.dirty and block not in two.dirty:
                        self.assertEqual(one.block_values[block], two.block_values[block])

    def test_what_is_pending_stays_until_the_restart(self):
        source = random.Random(4)
        for _ in range(100):
            [pair] = self.same_pairs(source, 1)
            ahead = [pair.pending, pair.counts]
            pair.cut()
            self.assertEqual([pair.pending, pair.counts], ahead)
            told(pair.read, 0)
            self.assertEqual(repr([pair.pending, pair.counts, shown(pair)[-3:]]), repr([*ahead, ["PowerOff"] * 3]))


if __name__ == "__main__":
    unittest.main()

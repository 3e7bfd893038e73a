"""Requests, taking slots, cleaning and properties of pairs."""

import random
import unittest

from keepbefore.pairs import Pair
from keepbefore.rules import Recipes, Rules
from tests.helpers import SAFE, TRIPLES, any_recipes, example_result
from tests.twins import TwinsTestCase, any_request, any_rules, new_pair, shown

EXAMPLES = ["""
>>> from keepbefore.pairs import Pair
>>> from keepbefore.rules import Rules
>>> pair = Pair(2, 1, Rules("back", "keep", "used", 1))
>>> hits = [pair.write(0, 5), pair.write(1, 6)]
>>> [hits, pair.known, pair.counts]
[[False, False], {0: (1, 6, 2, True)}, (0, 1, 1, 0, 3, 5)]
""", """
>>> from keepbefore.pairs import Pair
>>> from keepbefore.rules import Rules
>>> pair = Pair(1, 2, Rules("back", "pass", "used", 8))
>>> hit = pair.write(0, 5)
>>> pair.fail_at(1)
>>> pair.write(0, 6)
raises PowerFailed(is_done=False)
""", """
>>> from keepbefore.pairs import Pair
>>> from keepbefore.rules import Rules
>>> pair = Pair(1, 2, Rules("back", "pass", "used", 8))
>>> hit = pair.write(0, 5)
>>> pair.cut()
>>> [pair.restart((), ()), pair.block_values, pair.known]
[[0], [5], {0: (0, 5, 1, True)}]
"""]

# Recipes that clean otherwise than the safe ones.
OTHER_CLEANING = [
    (), ("mark",), ("slow",), ("mark", "slow"), ("slow", "mark", "sync fast", "sync slow"),
    ("sync fast", "sync slow"), ("sync slow", "slow", "sync slow", "sync fast", "mark"),
]


class ExamplesTest(unittest.TestCase):
    def test_the_examples(self):
        for example in EXAMPLES:
            result, told = example_result(example)
            self.assertEqual(repr(result), repr(told))


class RequestsTest(TwinsTestCase):
    def test_a_new_pair(self):
        for blocks in range(1, 17):
            for slots in range(1, 9):
                self.start(blocks, slots, ("back", "keep", "used", 8))
                self.assertEqual(self.pair.block_values, [0] * blocks)
        pair = Pair(2, 3, Rules("around", "pass", "rare", 2))
        self.assertEqual(repr(shown(pair)),
                         repr([([], []), (0,) * 6, ("around", "pass", "rare", 2), 0, 0, True, [0, 0], {}, []]))

    def test_none_stands_for_the_safe_recipes(self):
        source = random.Random(1)
        for _ in range(60):
            blocks, slots, rules = source.randint(1, 5), source.randint(1, 3), Rules(*any_rules(source))
            pairs = [Pair(blocks, slots, rules), Pair(blocks, slots, rules, recipes=None),
                     Pair(blocks, slots, rules, recipes=Recipes.safe())]
            for _ in range(20):
                name, *arguments = any_request(source, blocks)
                self.assertEqual(len({getattr(pair, name)(*arguments) for pair in pairs}), 1)
                self.assertEqual(len({repr(shown(pair)) for pair in pairs}), 1)

    def test_random_requests_by_all_rules(self):
        source = random.Random(2)
        for triple in TRIPLES:
            for bound in range(9):
                for slots in (1, 2, 3, source.randint(4, 8)):
                    self.start(source.randint(1, 2 * slots), slots, (*triple, bound))
                    for _ in range(25):
                        self.both_request(source)

    def test_many_blocks_and_slots(self):
        source = random.Random(3)
        for triple in TRIPLES:
            self.start(16, source.choice([7, 8]), (*triple, source.randint(3, 8)))
            for _ in range(120):
                self.both_request(source)

    def test_no_more_records_than_the_bound_are_dirty(self):
        source = random.Random(4)
        for blocks in range(1, 17):
            for slots in range(1, 9):
                for bound in range(9):
                    pair = new_pair(blocks, slots, ("back", source.choice(["keep", "pass"]), "used", bound))
                    self.write_much(source, pair, blocks, min(bound, slots))

    def write_much(self, source, pair, blocks, most):
        for number in range(16):
            if source.random() < 0.2:
                pair.read(source.randrange(blocks))
            block = source.randrange(blocks)
            pair.write(block, number)
            self.assertLessEqual(len(pair.dirty), most)
            self.assertEqual(block in pair.dirty, most > 0)

    def test_recipes_with_words_missing_exchanged_or_shuffled(self):
        source = random.Random(5)
        for _ in range(700):
            slots = source.randint(1, 4)
            self.start(source.randint(1, 2 * slots), slots, any_rules(source), any_recipes(source))
            for _ in range(20):
                self.both_request(source)
                if source.random() < 0.1:
                    self.both("set_rules", any_rules(source))

    def test_recipes_of_few_words_with_every_rule_for_writing(self):
        words = [(), ("slow",), ("fast",), ("free",), ("fast", "free"), ("free", "fast"), ("slow", "fast", "free")]
        source = random.Random(6)
        for recipe in words:
            for place in range(len(recipe) + 1):
                done = (*recipe[:place], "done", *recipe[place:])
                for writing in ("through", "back", "around"):
                    for clean in OTHER_CLEANING:
                        self.start(3, 2, ("back", "keep", "used", 8), (done, done, done, clean))
                        self.mix_requests(source, writing)

    def mix_requests(self, source, writing):
        for block in (0, 1, 0):
            self.both("write", block, source.randint(1, 999))
        self.both("set_rules", (writing, "keep", "came", source.randint(0, 2)))
        for _ in range(8):
            self.both_request(source)

    def test_what_else_is_done_between_requests(self):
        source = random.Random(7)
        for number in range(500):
            recipes = SAFE if number % 2 else any_recipes(source)
            slots = source.randint(1, 8)
            self.start(source.randint(1, min(16, 2 * slots)), slots, any_rules(source), recipes)
            for _ in range(30):
                self.do_any(source)

    def do_any(self, source):
        word = source.choice(["request"] * 6 + ["settle", "forget", "clean_up", "set_rules"])
        if word == "request":
            self.both_request(source)
        elif word == "settle":
            self.both("settle")
        elif word == "forget":
            self.both("forget", source.randrange(self.model.blocks))
        elif word == "clean_up":
            self.both("clean_up", source.randint(0, 8))
        else:
            self.both("set_rules", any_rules(source))


class ChoiceTest(unittest.TestCase):
    """Which blocks are kept by reads alone, told by own lists of when they came and were used."""

    def setUp(self):
        self.kept = {}
        self.slots = {}

    def read(self, pair, number, block, choice):
        if block in self.kept:
            self.kept[block].append(number)
        else:
            slot = len(self.kept)
            if slot == self.many:
                worst = min(self.kept, key=lambda other: self.rank(self.kept[other], choice))
                del self.kept[worst]
                slot = self.slots.pop(worst)
            self.kept[block] = [number]
            self.slots[block] = slot
        pair.read(block)
        self.assertEqual({slot: record[0] for slot, record in pair.known.items()},
                         {slot: block for block, slot in self.slots.items()})
        self.assertEqual(list(pair.known), sorted(pair.known))

    def rank(self, times, choice):
        if choice == "rare":
            return (min(len(times), 9), times[-1])
        return times[0] if choice == "came" else times[-1]

    def begin(self, slots, choice):
        self.many = slots
        self.kept.clear()
        self.slots.clear()
        return new_pair(16, slots, ("through", "keep", choice, 0))

    def test_reads_of_many_blocks_and_of_a_few_of_them_often(self):
        source = random.Random(1)
        for slots in range(1, 9):
            for choice in ("used", "came", "rare"):
                for often in (0.1, 0.5, 0.9):
                    pair = self.begin(slots, choice)
                    favoured = [source.randrange(16) for _ in range(3)]
                    for number in range(90):
                        block = source.choice(favoured) if source.random() < often else source.randrange(16)
                        self.read(pair, number, block, choice)

    def test_uses_are_counted_up_to_9(self):
        for first in range(1, 13):
            for second in range(1, 13):
                for choice in ("used", "came", "rare"):
                    pair = self.begin(2, choice)
                    blocks = [0] * first + [1] * second + [2, 3]
                    for number, block in enumerate(blocks):
                        self.read(pair, number, block, choice)

    def test_of_ten_uses_and_nine_the_ones_longer_ago_do_not_count(self):
        pair = new_pair(3, 2, ("through", "keep", "rare", 0))
        for block in [0] * 10 + [1] * 9 + [2]:
            pair.read(block)
        self.assertEqual([record[0] for record in pair.known.values()], [2, 1])
        pair = new_pair(3, 2, ("through", "keep", "rare", 0))
        for block in [0] * 9 + [1] * 8 + [2]:
            pair.read(block)
        self.assertEqual([record[0] for record in pair.known.values()], [0, 2])

    def test_writes_use_slots_too(self):
        for writing in ("through", "back"):
            pair = new_pair(3, 2, (writing, "keep", "used", 0))
            for block in (0, 1):
                pair.read(block)
            pair.write(0, 5)
            pair.read(2)
            self.assertEqual([record[0] for record in pair.known.values()], [0, 2])

    def test_a_record_written_into_the_slot_of_its_block_came_when_the_block_did(self):
        for writing in ("through", "back"):
            pair = new_pair(3, 2, (writing, "keep", "came", 0))
            for block in (0, 1):
                pair.read(block)
            pair.write(0, 5)
            pair.read(2)
            self.assertEqual([record[0] for record in pair.known.values()], [2, 1])

    def test_of_equal_slots_the_one_with_the_least_number_is_taken(self):
        for choice in ("used", "came", "rare"):
            pair = new_pair(4, 3, ("back", "keep", choice, 8))
            for block in (2, 1, 0):
                pair.write(block, 7)
            pair.cut()
            pair.restart((), ())
            # All three came and were used at once now.
            self.assertEqual(pair.clean_up(8), [2, 1, 0])
            pair.read(3)
            self.assertEqual([record[0] for record in pair.known.values()], [3, 1, 0])


class CleaningTest(unittest.TestCase):
    """Eight slots and a bound of at most 5, so that only the bound makes a write clean records."""

    def write_much(self, source, pair, bound, many):
        """Writes, and returns the blocks in the order of their last writes, the values and those written back."""
        order, values, cleaned = [], [0] * 16, [0] * 16
        for _ in range(many):
            block, value = source.randrange(16), source.randrange(1000)
            pair.write(block, value)
            values[block] = value
            order = [other for other in order if other != block] + [block]
            while len(order) > bound:
                cleaned[order[0]] = values[order[0]]
                del order[0]
            self.assertEqual(pair.dirty, sorted(order))
        return order, values, cleaned

    def test_which_blocks_are_dirty_and_what_the_slow_disk_has(self):
        source = random.Random(1)
        for bound in range(6):
            for many in (0, 1, 5, 8, 20, 50, 90):
                pair = new_pair(16, 8, ("back", "keep", "used", bound))
                order, values, cleaned = self.write_much(source, pair, bound, many)
                self.assertEqual(pair.block_values, values)
                lost = pair.lose_fast()
                self.assertEqual(list(lost.items()), [(block, values[block]) for block in sorted(order)])
                self.assertEqual(pair.block_values, cleaned)

    def test_which_blocks_are_cleaned_between_requests(self):
        source = random.Random(2)
        for clean in [SAFE[3], *OTHER_CLEANING]:
            for count in range(9):
                pair = new_pair(16, 8, ("back", "pass", "rare", 5), (*SAFE[:3], clean))
                order, values, cleaned = self.write_much(source, pair, 5, 30)
                steps = pair.counts
                self.assertEqual(pair.clean_up(count), order[:count])
                self.assertEqual(pair.dirty, sorted(order[count:]))
                if "slow" in clean:
                    self.assertEqual(pair.block_values, values)
                many = min(count, 5)
                self.assertEqual([after - ahead for after, ahead in zip(pair.counts, steps)],
                                 [0, many * clean.count("slow"), many * clean.count("sync slow"),
                                  0, many * clean.count("mark"), many * clean.count("sync fast")])
                self.assertEqual(pair.clean_up(8), order[count:])

    def test_cleaning_keeps_the_times_of_coming_and_using(self):
        for choice, order in (("used", [1, 2, 0]), ("came", [0, 1, 2]), ("rare", [1, 2, 0])):
            for many in range(4):
                pair = new_pair(6, 3, ("back", "keep", choice, 8))
                for block in (0, 1, 2):
                    pair.write(block, 7)
                pair.read(0)
                pair.clean_up(many)
                pair.clean_up(3 - many)
                for block, gone in zip((3, 4, 5), order):
                    pair.read(block)
                    self.assertNotIn(gone, [record[0] for record in pair.known.values()])
                    if choice == "rare":
                        pair.read(block)

    def test_by_the_other_rules_nothing_is_cleaned(self):
        for writing in ("through", "around"):
            pair = new_pair(4, 4, ("back", "keep", "used", 8))
            for block in (0, 1, 2):
                pair.write(block, 7)
            pair.set_rules(Rules(writing, "keep", "used", 0))
            self.assertEqual(pair.dirty, [0, 1, 2])
            pair.write(3, 7)
            pair.read(3)
            self.assertEqual(pair.dirty, [0, 1, 2])
            pair.write(0, 7)
            self.assertEqual(pair.dirty, [1, 2])

    def test_settling_syncs_both_disks(self):
        recipes = (("slow", "done"), ("slow", "fast", "done"), ("slow", "done"), ())
        pair = new_pair(2, 2, ("back", "keep", "used", 8), recipes)
        pair.write(0, 5)
        self.assertEqual(pair.pending, ([(0, 5)], [(0, (0, 5, 1, True))]))
        self.assertIsNone(pair.settle())
        self.assertEqual([pair.pending, pair.counts, pair.requests], [([], []), (0, 1, 1, 0, 1, 1), 1])

    def test_forgetting(self):
        pair = new_pair(3, 3, ("back", "keep", "used", 8))
        pair.write(0, 5)
        pair.read(1)
        self.assertEqual([pair.forget(block) for block in (0, 1, 2, 1)], [False, True, False, False])
        self.assertEqual(pair.known, {0: (0, 5, 1, True)})
        self.assertEqual([pair.requests, pair.counts], [2, (1, 0, 0, 0, 2, 2)])
        pair.clean_up(1)
        self.assertIs(pair.forget(0), True)
        self.assertEqual([pair.known, pair.block_values], [{}, [5, 0, 0]])


class ValuesTest(unittest.TestCase):
    """With the safe recipes, one plain list tells all values, whatever the rules are and become."""

    def test_each_value_that_is_read(self):
        source = random.Random(1)
        for _ in range(400):
            blocks = source.randint(1, 16)
            pair = new_pair(blocks, source.randint(1, 8), any_rules(source))
            values = [0] * blocks
            for _ in range(50):
                self.do_any(source, pair, values)
                self.assertEqual(pair.block_values, values)

    def do_any(self, source, pair, values):
        block = source.randrange(len(values))
        word = source.choice(["read"] * 4 + ["write"] * 5 + ["rules", "clean", "forget", "settle"])
        if word == "read":
            self.assertEqual(pair.read(block), values[block])
        elif word == "write":
            values[block] = source.randrange(1000)
            pair.write(block, values[block])
        elif word == "rules":
            rules = Rules(*any_rules(source))
            self.assertIsNone(pair.set_rules(rules))
            self.assertEqual(pair.rules, rules)
        elif word == "clean":
            pair.clean_up(source.randint(0, 8))
        elif word == "forget":
            pair.forget(block)
        else:
            pair.settle()


class RelationsTest(TwinsTestCase):
    """What hits, known records, dirty blocks, values and counts say of one another."""

    def test_with_the_safe_recipes(self):
        source = random.Random(1)
        for _ in range(250):
            blocks = source.randint(1, 12)
            pair = new_pair(blocks, source.randint(1, 6), any_rules(source))
            for number in range(40):
                self.request(source, pair, blocks, number)
                self.check_properties(pair, blocks)
                if source.random() < 0.1:
                    pair.set_rules(Rules(*any_rules(source)))

    def request(self, source, pair, blocks, number):
        name, block, *value = any_request(source, blocks)
        homes = {record[0]: (slot, record) for slot, record in pair.known.items()}
        ahead, values, hits = pair.counts, pair.block_values, pair.hits
        result = getattr(pair, name)(block, *value)
        self.assertEqual(pair.requests, number + 1)
        self.assertEqual(pair.hits, hits + (block in homes))
        reads = [after - before for after, before in zip(pair.counts, ahead)]
        self.assertGreaterEqual(min(reads), 0)
        self.assertEqual(reads[0], name == "read" and block not in homes)
        self.assertEqual(reads[3], name == "read" and block in homes)
        if name == "read":
            self.assertEqual(result, values[block])
            self.assertEqual(pair.block_values, values)
        else:
            self.assertIs(result, block in homes)
            values[block] = value[0]
            self.assertEqual(pair.block_values, values)

    def check_properties(self, pair, blocks):
        records = list(pair.known.values())
        names = [record[0] for record in records]
        self.assertEqual(len(names), len(set(names)))
        self.assertEqual(list(pair.known), sorted(pair.known))
        self.assertEqual(pair.dirty, sorted(record[0] for record in records if record[3]))
        self.assertEqual([pair.block_values[record[0]] for record in records], [record[1] for record in records])
        turns = [record[2] for record in records if record[2]]
        self.assertEqual(len(turns), len(set(turns)))
        self.assertTrue(all(record[2] for record in records if record[3]))
        self.assertLessEqual(pair.hits, pair.requests)
        self.assertEqual(len(pair.block_values), blocks)

    def test_turns_number_the_writes(self):
        pair = new_pair(3, 4, ("back", "keep", "used", 8))
        pair.write(0, 5)
        pair.read(1)
        pair.write(2, 6)
        pair.write(0, 7)
        self.assertEqual(sorted(pair.known.values()), [(0, 7, 3, True), (1, 0, 0, False), (2, 6, 2, True)])
        pair.set_rules(Rules("through", "keep", "used", 8))
        pair.write(1, 8)
        self.assertIn((1, 8, 4, False), pair.known.values())

    def test_counts_never_fall_when_disks_die(self):
        source = random.Random(2)
        for _ in range(150):
            pair = new_pair(4, 3, any_rules(source))
            for _ in range(20):
                ahead = pair.counts
                self.let_a_disk_die(source, pair)
                self.assertTrue(all(after >= before for after, before in zip(pair.counts, ahead)))
                self.assertIsInstance(pair.counts, tuple)

    def let_a_disk_die(self, source, pair):
        for _ in range(3):
            name, *arguments = any_request(source, 4)
            getattr(pair, name)(*arguments)
        has_fast = len(pair.pending[1]) > 0 or pair.known != {}
        if source.random() < 0.5:
            pair.lose_slow()
        elif has_fast:
            pair.lose_fast()
            if source.random() < 0.8:
                pair.give_fast(source.randint(1, 8))

    def test_requests_with_other_values_do_alike(self):
        source = random.Random(3)
        for _ in range(300):
            recipes = SAFE if source.random() < 0.5 else any_recipes(source)
            rules, slots = any_rules(source), source.randint(1, 4)
            pair, other = new_pair(5, slots, rules, recipes), new_pair(5, slots, rules, recipes)
            for _ in range(20):
                name, block, *value = any_request(source, 5)
                results = [getattr(pair, name)(block, *value)]
                results.append(getattr(other, name)(block, *[(17 * number + 3) % 1000 for number in value]))
                if name == "write":
                    self.assertEqual(*results)
                self.assertEqual(self.places(pair), self.places(other))

    def places(self, pair):
        records = {slot: (block, turn, is_dirty) for slot, (block, _, turn, is_dirty) in pair.known.items()}
        return [pair.hits, pair.requests, pair.counts, pair.dirty, records,
                [[cell for cell, _ in writes] for writes in pair.pending]]

    def test_showing_repeats_and_counts_nothing(self):
        source = random.Random(4)
        for _ in range(60):
            self.start(4, 2, any_rules(source), any_recipes(source))
            for _ in range(10):
                self.both_request(source)
                self.assert_alike()
                self.assertEqual(repr(shown(self.pair)), repr(shown(self.pair)))

    def test_what_callers_change_stays_outside(self):
        source = random.Random(5)
        for _ in range(60):
            self.start(4, 3, any_rules(source), any_recipes(source))
            for _ in range(8):
                self.both_request(source)
                self.pair.block_values[0] = 77
                self.pair.known.clear()
                self.pair.known[0] = (0, 0, 0, True)
                self.pair.dirty.append(3)
                for writes in self.pair.pending:
                    writes.append((0, 0))
                self.assert_alike()
                for name, arguments in (("clean_up", [1]), ("lose_slow", []), ("lose_fast", []), ("give_fast", [2])):
                    self.change_result(name, *arguments)

    def change_result(self, name, *arguments):
        result = getattr(self.pair, name)(*arguments)
        self.model.call(name, *arguments)
        if isinstance(result, list):
            result.append(9)
        elif isinstance(result, dict):
            result[9] = 9
        self.assert_alike()

    def test_what_was_shown_does_not_change_later(self):
        pair = new_pair(2, 2, ("back", "keep", "used", 8), (("done",), ("fast", "done"), ("done",), ()))
        pair.write(0, 5)
        before = [pair.block_values, pair.known, pair.dirty, pair.pending, pair.counts]
        text = repr(before)
        pair.write(1, 6)
        pair.clean_up(8)
        pair.settle()
        pair.lose_fast()
        self.assertEqual(repr(before), text)

    def test_pairs_share_nothing(self):
        rules, recipes = Rules("back", "keep", "used", 8), Recipes.safe()
        first, second = Pair(2, 2, rules, recipes=recipes), Pair(2, 2, rules, recipes=recipes)
        first.write(0, 5)
        first.set_rules(Rules("around", "pass", "rare", 0))
        self.assertEqual(repr(shown(second)), repr(shown(Pair(2, 2, rules))))
        self.assertEqual(second.rules, rules)


if __name__ == "__main__":
    unittest.main()

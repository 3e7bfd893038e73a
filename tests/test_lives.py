"""The main promise, with the safe recipes: own lists tell which values each block can have."""

import random
import unittest

from keepbefore.errors import PowerFailed
from keepbefore.rules import Rules
from tests.helpers import TRIPLES, kept_parts
from tests.twins import any_request, any_rules, new_pair, steps_of


class Chances:
    """For each block the values that it can have by the main promise."""

    def __init__(self, blocks):
        self.values = [[0] for _ in range(blocks)]

    def interrupted(self, block, value, is_done):
        if is_done:
            self.values[block] = [value]
        else:
            self.values[block] = [*self.values[block], value]

    def seen(self, values):
        """The values that are there stay from now on."""
        self.values = [[value] for value in values]


def cut_and_restart(source, pair):
    if pair.is_on:
        pair.cut()
    chance = source.choice([0, 0.3, 0.7, 1])
    pair.restart(*[tuple(at for at in range(len(writes)) if source.random() < chance) for writes in pair.pending])


class LivesTest(unittest.TestCase):
    def assert_can_be(self, pair, chances, done):
        for block, value in enumerate(pair.block_values):
            self.assertIn(value, chances.values[block], done)

    def test_long_random_lives(self):
        source = random.Random(1)
        for _ in range(250):
            blocks = source.randint(1, 8)
            rules, slots = any_rules(source), source.randint(1, 6)
            pair, chances = new_pair(blocks, slots, rules), Chances(blocks)
            done = [(blocks, slots, rules)]
            for _ in range(60):
                self.do_any(source, pair, chances, done)
                self.assert_can_be(pair, chances, done)
                chances.seen(pair.block_values)

    def do_any(self, source, pair, chances, done):
        name, *arguments = self.any_call(source, len(chances.values))
        done.append((name, *arguments))
        if name == "set_rules":
            arguments = [Rules(*arguments[0])]
        try:
            result = getattr(pair, name)(*arguments)
        except PowerFailed as failed:
            if name == "write":
                chances.interrupted(*arguments, failed.is_done)
        else:
            if name == "write":
                chances.interrupted(*arguments, True)
            if name == "read":
                self.assertIn(result, chances.values[arguments[0]], done)
        if not pair.is_on:
            done.append(pair.pending)
            cut_and_restart(source, pair)

    def any_call(self, source, blocks):
        word = source.choice(["request"] * 8 + ["rules", "clean", "forget", "fail", "fail", "fail", "cut", "settle"])
        if word == "request":
            return any_request(source, blocks)
        return {"rules": ("set_rules", any_rules(source)), "clean": ("clean_up", source.randint(0, 8)),
                "forget": ("forget", source.randrange(blocks)), "fail": ("fail_at", source.randint(0, 12)),
                "cut": ("cut",), "settle": ("settle",)}[word]

    def test_one_write_with_the_power_failing_ahead_of_each_step(self):
        source = random.Random(2)
        for triple in TRIPLES:
            for bound in (0, 1, 2, 8):
                self.fail_in_one_write(source, (*triple, bound))

    def fail_in_one_write(self, source, rules):
        requests = [any_request(source, 3) for _ in range(source.randint(0, 6))]
        firsts = [(*source.choice(TRIPLES), 8), rules]
        steps = 0
        while True:
            pair = self.begin(firsts, requests)
            ahead, values = steps_of(pair), pair.block_values
            pair.fail_at(steps)
            is_done = True
            try:
                pair.write(1, 999)
            except PowerFailed as failed:
                is_done = failed.is_done
            else:
                pair.cut()
            self.check_all_kept(firsts, requests, steps, values, is_done)
            if steps_of(pair) - ahead < steps:
                return
            steps += 1

    def begin(self, rules, requests):
        pair = new_pair(3, 2, rules[0])
        for name, *arguments in requests:
            getattr(pair, name)(*arguments)
        pair.set_rules(Rules(*rules[1]))
        return pair

    def check_all_kept(self, rules, requests, steps, values, is_done):
        slow_parts, fast_parts = [kept_parts(len(writes)) for writes in self.off(rules, requests, steps).pending]
        for slow_kept in slow_parts:
            for fast_kept in fast_parts:
                pair = self.off(rules, requests, steps)
                pair.restart(slow_kept, fast_kept)
                left = pair.block_values
                self.assertEqual([left[0], left[2]], [values[0], values[2]])
                self.assertIn(left[1], [999] if is_done else [values[1], 999])
                self.assertEqual([pair.read(block) for block in range(3)], left)

    def off(self, rules, requests, steps):
        pair = self.begin(rules, requests)
        pair.fail_at(steps)
        try:
            pair.write(1, 999)
        except PowerFailed:
            return pair
        pair.cut()
        return pair

    def test_a_block_left_alone_keeps_its_value(self):
        source = random.Random(3)
        for _ in range(200):
            pair = new_pair(4, source.randint(1, 4), any_rules(source))
            pair.write(0, 5)
            # Once the write of this value was interrupted, it is seen and stays.
            pair.fail_at(source.randint(0, 5))
            try:
                pair.write(0, 6)
                pair.cut()
            except PowerFailed:
                pass
            cut_and_restart(source, pair)
            value = pair.block_values[0]
            self.assertIn(value, (5, 6))
            for _ in range(12):
                self.write_others(source, pair)
                self.assertEqual(pair.block_values[0], value)
            self.assertEqual(pair.read(0), value)

    def write_others(self, source, pair):
        pair.fail_at(source.randint(0, 15))
        try:
            for _ in range(4):
                pair.write(source.randint(1, 3), source.randrange(1000))
                if source.random() < 0.3:
                    pair.set_rules(Rules(*any_rules(source)))
                    pair.clean_up(source.randint(0, 2))
        except PowerFailed:
            pass
        cut_and_restart(source, pair)


if __name__ == "__main__":
    unittest.main()

"""The same requests of blocks that are called otherwise: all is the same but for the names."""

import random
import unittest

from keepbefore.costs import cheapest, run
from keepbefore.errors import PowerFailed
from keepbefore.rounds import Repeated
from keepbefore.rules import Rules
from tests.twins import any_request, any_requests, any_rules, new_pair, renamed


def play(pair, requests, steps):
    """The results of the requests, until the power fails."""
    results = []
    pair.fail_at(steps)
    try:
        for name, *arguments in requests:
            results.append(getattr(pair, name)(*arguments))
        pair.fail_at(None)
    except PowerFailed as failed:
        results.append(failed.is_done)
        pair.restart((), ())
    return results


class RenamedTest(unittest.TestCase):
    def any_given(self, source):
        blocks = source.randint(1, 16)
        return blocks, source.randint(1, 8), any_rules(source), source.sample(range(blocks), blocks)

    def test_results_counts_and_rounds(self):
        source = random.Random(1)
        for _ in range(200):
            blocks, slots, rules, names = self.any_given(source)
            rules = Rules(*rules)
            requests = any_requests(source, blocks, 20, 1)
            others = renamed(requests, names)
            self.assertEqual(run(blocks, slots, rules, others), run(blocks, slots, rules, requests))
            repeated, other = Repeated(blocks, slots, rules, requests), Repeated(blocks, slots, rules, others)
            self.assertEqual(other.settled, repeated.settled)
            for number in (1, 2, 100, 10 ** 18):
                self.assertEqual(other.counts_after(number), repeated.counts_after(number))
                self.assertEqual(other.hits_after(number), repeated.hits_after(number))
                self.assertEqual(other.worn_after(number), repeated.worn_after(number))

    def test_the_cheapest_rules(self):
        source = random.Random(2)
        for _ in range(40):
            blocks, slots, rules, names = self.any_given(source)
            requests = any_requests(source, blocks)
            prices = tuple(source.randrange(1000) for _ in range(6))
            found = [cheapest(blocks, slots, rules[3], some, prices) for some in (requests, renamed(requests, names))]
            self.assertEqual(found[0], found[1])

    def test_lost_values_are_those_of_the_blocks_so_called(self):
        source = random.Random(3)
        lost_some = 0
        for number in range(300):
            blocks, slots, rules, names = self.any_given(source)
            pairs = [new_pair(blocks, slots, rules), new_pair(blocks, slots, rules)]
            for _ in range(3):
                requests = [any_request(source, blocks) for _ in range(source.randint(0, 8))]
                steps = source.choice([None, 2, 5, 20])
                results = [play(pair, some, steps) for pair, some in zip(pairs, (requests, renamed(requests, names)))]
                self.assertEqual(results[0], results[1])
            self.assert_renamed(pairs, names)
            if number % 2:
                lost = [pair.lose_fast() for pair in pairs]
                self.assertEqual(list(lost[1].items()), sorted((names[block], value) for block, value in lost[0].items()))
            else:
                lost = [pair.lose_slow() for pair in pairs]
                self.assertEqual(lost[1], sorted(names[block] for block in lost[0]))
            lost_some += 0 < len(lost[0]) < blocks
            self.assert_renamed(pairs, names)
        self.assertGreater(lost_some, 50)

    def assert_renamed(self, pairs, names):
        pair, other = pairs
        self.assertEqual([other.block_values[name] for name in names], pair.block_values)
        self.assertEqual(other.dirty, sorted(names[block] for block in pair.dirty))
        self.assertEqual(other.known, {slot: (names[record[0]], *record[1:]) for slot, record in pair.known.items()})
        self.assertEqual([other.hits, other.requests, other.counts], [pair.hits, pair.requests, pair.counts])


if __name__ == "__main__":
    unittest.main()

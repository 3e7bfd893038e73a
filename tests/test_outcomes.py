"""All that there can be when the power fails anywhere in a few requests."""

import random
import unittest

from keepbefore.errors import InvalidRequests, InvalidSize
from keepbefore.rules import Recipes, Rules
from keepbefore.stories import outcomes
from tests.helpers import OTHER_KINDS, SAFE, TRIPLES, any_recipes, example_result, kept_parts
from tests.model import Model, all_left
from tests.twins import any_request, any_rules, new_pair, steps_of, told

EXAMPLE = """
>>> from keepbefore.rules import Recipes, Rules
>>> from keepbefore.stories import outcomes
>>> outcomes(1, 1, Rules("through", "pass", "used", 0), Recipes.safe(), [("write", 0, 5)])
[(0,), (5,)]
"""


def outcomes_of(blocks, slots, rules, recipes, requests):
    return outcomes(blocks, slots, Rules(*rules), Recipes(*recipes), requests)


def outcomes_by_all(blocks, slots, rules, recipes, requests):
    found = set()
    steps = 0
    is_over = False
    while not is_over:
        model = Model(blocks, slots, rules, recipes)
        model.left = steps
        is_over = not any(model.call(*request)[0] == "PowerFailed" for request in requests)
        found |= {values for _, _, values in all_left(model)}
        steps += 1
    return sorted(found)


class OutcomesTest(unittest.TestCase):
    def test_the_example(self):
        result, told_result = example_result(EXAMPLE)
        self.assertEqual(repr(result), repr(told_result))

    def test_by_going_through_all_steps_and_parts_kept(self):
        source = random.Random(1)
        for number in range(500):
            recipes = SAFE if number % 4 == 0 else any_recipes(source)
            blocks, slots, rules = source.randint(1, 3), source.randint(1, 3), any_rules(source)
            requests = [any_request(source, blocks) for _ in range(source.randint(0, 3))]
            given = (blocks, slots, rules, recipes, requests)
            self.assertEqual(repr(outcomes_of(*given)), repr(outcomes_by_all(*given)), given)

    def test_on_pairs_by_hand(self):
        source = random.Random(2)
        for _ in range(40):
            recipes = SAFE if source.random() < 0.3 else any_recipes(source)
            blocks, slots, rules = source.randint(1, 2), source.randint(1, 2), any_rules(source)
            requests = [any_request(source, blocks) for _ in range(2)]
            given = (blocks, slots, rules, recipes, requests)
            self.assertEqual(outcomes_of(*given), self.by_hand(given), given)

    def by_hand(self, given):
        found = set()
        many = steps_of(self.off(*given, None))
        for steps in range(many + 1):
            slow_parts, fast_parts = [kept_parts(len(writes)) for writes in self.off(*given, steps).pending]
            for slow_kept in slow_parts:
                for fast_kept in fast_parts:
                    pair = self.off(*given, steps)
                    pair.restart(slow_kept, fast_kept)
                    found.add(tuple(pair.block_values))
        return sorted(found)

    def off(self, blocks, slots, rules, recipes, requests, steps):
        pair = new_pair(blocks, slots, rules, recipes)
        pair.fail_at(steps)
        for name, *arguments in requests:
            told(getattr(pair, name), *arguments)
        told(pair.cut)
        return pair

    def test_with_safe_recipes_each_outcome_is_that_of_the_first_so_many_writes(self):
        source = random.Random(3)
        for triple in TRIPLES:
            for bound in (0, 1, 2, 8):
                for _ in range(4):
                    blocks = source.randint(1, 3)
                    requests = [any_request(source, blocks) for _ in range(3)]
                    values = [0] * blocks
                    stages = {tuple(values)}
                    for name, block, *value in requests:
                        if name == "write":
                            values[block] = value[0]
                            stages.add(tuple(values))
                    found = outcomes_of(blocks, source.randint(1, 3), (*triple, bound), SAFE, requests)
                    self.assertEqual(found, sorted(stages))

    def test_without_requests(self):
        for blocks in (1, 2, 3):
            self.assertEqual(outcomes_of(blocks, 1, ("back", "keep", "used", 0), SAFE, []), [(0,) * blocks])

    def test_the_arguments_stay_and_the_list_is_new(self):
        requests = [("write", 0, 5), ("read", 0), ("write", 0, 6)]
        given = (1, 1, ("back", "keep", "used", 0), SAFE, requests)
        first = outcomes_of(*given)
        self.assertEqual([first, requests], [[(0,), (5,), (6,)], [("write", 0, 5), ("read", 0), ("write", 0, 6)]])
        first.append(None)
        self.assertEqual(outcomes_of(*given), [(0,), (5,), (6,)])

    def test_sizes(self):
        rules, recipes = Rules("back", "keep", "used", 0), Recipes.safe()
        for wrong in [0, 4, 16, *OTHER_KINDS]:
            for requests in ([], None):
                with self.subTest(wrong=wrong), self.assertRaises(InvalidSize):
                    outcomes(wrong, 1, rules, recipes, requests)
                with self.subTest(wrong=wrong), self.assertRaises(InvalidSize):
                    outcomes(1, wrong, rules, recipes, requests)

    def test_wrong_requests(self):
        right = ("write", 0, 5)
        cases = [([right] * 4, 3), ([right] * 9, 3), ([right, ("read", 2)], 1), ([("read",), *[right] * 5], 0),
                 ([right, right, right, ("read", 7)], 3), ([right, right, ["read", 0]], 2), ((right,), 0)]
        cases += [(thing, 0) for thing in OTHER_KINDS if thing != []]
        for requests, index in cases:
            with self.subTest(requests=requests), self.assertRaises(InvalidRequests) as caught:
                outcomes(2, 1, Rules("back", "keep", "used", 0), Recipes.safe(), requests)
            self.assertEqual(repr(caught.exception.index), repr(index))

    def test_the_largest_calls_end(self):
        unsynced = (("slow", "fast", "done"), ("slow", "fast", "free", "done"), ("slow", "free", "done"), ("slow", "mark"))
        source = random.Random(4)
        for triple in TRIPLES:
            for bound in range(9):
                for blocks in ([0, 1, 2], [0, 0, 0], [0, 1, 0]):
                    requests = [("write", block, source.randrange(1000)) for block in blocks]
                    found = outcomes_of(3, 3, (*triple, bound), unsynced, requests)
                    self.assertIn((0, 0, 0), found)


if __name__ == "__main__":
    unittest.main()

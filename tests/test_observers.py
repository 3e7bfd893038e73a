"""Observers of pairs with hidden rules."""

import random
import unittest

from keepbefore.errors import Contradiction, InvalidCount, InvalidRequests, InvalidSize
from keepbefore.observers import RulesObserver
from tests.helpers import OTHER_KINDS, TRIPLES, WRONG_REQUESTS, example_result
from tests.twins import any_requests, renamed, told, walk

EXAMPLE = """
>>> from keepbefore.observers import RulesObserver
>>> observer = RulesObserver(1, 1, 0)
>>> observer.see_hits([("read", 0), ("read", 0)], False, True)
9
"""


def shown(observer):
    return repr([observer.candidates, observer.history])


class Hidden:
    """A pair with hidden rules, and an observer of it whose knowledge is also kept by own walking."""

    def __init__(self, source, most_blocks=5, most_slots=3):
        self.source = source
        self.blocks, self.slots = source.randint(1, most_blocks), source.randint(1, most_slots)
        self.bound = source.randint(0, 8)
        self.triple = source.choice(TRIPLES)
        self.observer = RulesObserver(self.blocks, self.slots, self.bound)
        self.candidates = list(TRIPLES)
        self.history = []

    def walk(self, triple, requests):
        _, counts, are_hits = walk(self.blocks, self.slots, (*triple, self.bound), requests)
        return counts, are_hits

    def any_observation(self, is_true):
        """The name and the arguments of an observation, a true one or that of another pair."""
        requests = any_requests(self.source, self.blocks, self.source.choice([2, 5, 12]))
        counts, are_hits = self.walk(self.triple if is_true else self.source.choice(TRIPLES), requests)
        if not is_true and self.source.random() < 0.3:
            counts = (*counts[:5], counts[5] + 1)
            are_hits = [self.source.random() < 0.5 for _ in requests]
        if self.source.random() < 0.5:
            return "see", requests, counts
        return "see_hits", requests, *are_hits

    def fitting(self, observation):
        name, requests, *seen = observation
        place = ["see", "see_hits"].index(name)
        walks = [(triple, self.walk(triple, requests)[place]) for triple in self.candidates]
        return [triple for triple, walked in walks if walked == (seen[0] if place == 0 else seen)]

    def observe(self, observation):
        """What the observer gives, and what it has to give."""
        remaining = self.fitting(observation)
        name, *arguments = observation
        found = told(getattr(self.observer, name), *arguments)
        if not remaining:
            return found, ("Contradiction", {})
        self.candidates = remaining
        self.history.append(observation)
        return found, ("value", len(remaining))


class SeeTest(unittest.TestCase):
    def test_the_example(self):
        result, told_result = example_result(EXAMPLE)
        self.assertEqual(repr(result), repr(told_result))

    def test_true_and_false_observations_by_own_walking(self):
        source = random.Random(1)
        contradictions = 0
        for _ in range(60):
            hidden = Hidden(source)
            self.assertEqual(shown(hidden.observer), repr([TRIPLES, []]))
            for _ in range(8):
                found, expected = hidden.observe(hidden.any_observation(source.random() < 0.6))
                self.assertEqual(repr(found), repr(expected))
                contradictions += expected[0] == "Contradiction"
                self.assertEqual(shown(hidden.observer), repr([hidden.candidates, hidden.history]))
        self.assertGreater(contradictions, 30)

    def test_true_observations_in_other_orders(self):
        source = random.Random(2)
        for _ in range(40):
            hidden = Hidden(source)
            observations = [hidden.any_observation(True) for _ in range(5)]
            orders = [observations, observations[::-1], source.sample(observations, 5), observations * 2]
            for order in orders:
                observer = RulesObserver(hidden.blocks, hidden.slots, hidden.bound)
                remaining = [getattr(observer, name)(*arguments) for name, *arguments in order]
                self.assertEqual(remaining, sorted(remaining, reverse=True))
                self.assertIn(hidden.triple, observer.candidates)
                self.assertEqual(observer.history, order)
                same = RulesObserver.from_history(hidden.blocks, hidden.slots, hidden.bound, order)
                self.assertEqual(shown(same), shown(observer))
                hidden.candidates = list(TRIPLES)
                for observation in order:
                    hidden.observe(observation)
                self.assertEqual(observer.candidates, hidden.candidates)

    def test_counts_that_no_pair_has(self):
        requests = [("read", 0), ("write", 0, 5)]
        observer = RulesObserver(1, 1, 0)
        observer.see_hits(requests, False, True)
        before = shown(observer)
        _, counts, _ = walk(1, 1, ("through", "keep", "used", 0), requests)
        for wrong in [list(counts), counts[:5], (*counts, 0), (0,) * 6, (-1,) * 6, repr(counts), {}, *OTHER_KINDS]:
            with self.subTest(wrong=wrong), self.assertRaises(Contradiction):
                observer.see(requests, wrong)
            self.assertEqual(shown(observer), before)
        # "through" and "around" cost the same here.
        self.assertEqual(observer.see(requests, counts), 6)

    def test_no_requests_tell_nothing(self):
        observer = RulesObserver(16, 8, 8)
        self.assertEqual([observer.see([], (0,) * 6), observer.see_hits([])], [18, 18])
        self.assertEqual(observer.history, [("see", [], (0,) * 6), ("see_hits", [])])
        self.assertEqual(told(observer.see, [], (0, 0, 0, 0, 0, 1)), ("Contradiction", {}))


class QuestionsTest(unittest.TestCase):
    def any_hidden(self, source):
        """A hidden pair of which something is known, but not all."""
        hidden = Hidden(source)
        for _ in range(source.randint(0, 2)):
            hidden.observe(hidden.any_observation(True))
        return hidden

    def counts_by_candidates(self, hidden, requests):
        return [hidden.walk(triple, requests)[0] for triple in hidden.candidates]

    def test_possible_counts_by_own_walking(self):
        source = random.Random(3)
        several = 0
        for _ in range(150):
            hidden = self.any_hidden(source)
            requests = any_requests(source, hidden.blocks, 12)
            before = shown(hidden.observer)
            found = hidden.observer.possible_counts(requests)
            self.assertEqual(repr(found), repr(sorted(set(self.counts_by_candidates(hidden, requests)))))
            self.assertEqual(shown(hidden.observer), before)
            several += len(found) > 2
        self.assertGreater(several, 50)

    def test_possible_counts_part_the_candidates(self):
        source = random.Random(4)
        for _ in range(60):
            hidden = self.any_hidden(source)
            requests = any_requests(source, hidden.blocks, 12)
            parts = []
            for counts in hidden.observer.possible_counts(requests):
                other = RulesObserver.from_history(hidden.blocks, hidden.slots, hidden.bound, hidden.observer.history)
                self.assertEqual(other.see(requests, counts), len(other.candidates))
                parts += other.candidates
            self.assertEqual(sorted(parts), hidden.observer.candidates)

    def test_best_requests_by_own_walking(self):
        source = random.Random(5)
        indexes = set()
        for _ in range(120):
            hidden = self.any_hidden(source)
            lists = [any_requests(source, hidden.blocks, 10) for _ in range(source.randint(1, 6))]
            worst = []
            for requests in lists:
                counts = self.counts_by_candidates(hidden, requests)
                worst.append(max(counts.count(one) for one in counts))
            text, before = repr(lists), shown(hidden.observer)
            found = hidden.observer.best_requests(lists)
            self.assertEqual(repr(found), repr([at for at in range(len(lists)) if worst[at] == min(worst)][0]))
            self.assertEqual([repr(lists), shown(hidden.observer)], [text, before])
            indexes.add(found)
        self.assertGreater(len(indexes), 3)

    def test_the_first_one_of_equal_lists(self):
        observer = RulesObserver(2, 1, 0)
        best = [("read", 0), ("read", 0), ("write", 0, 5), ("read", 1), ("read", 0)]
        self.assertEqual(observer.best_requests([[], best, [("read", 0)], list(best)]), 1)
        self.assertEqual(observer.best_requests([[], [], [("read", 0)]]), 2)
        self.assertEqual(observer.best_requests([[]]), 0)


class ErrorsTest(unittest.TestCase):
    def assert_raises(self, observer, error, call, *arguments, **attributes):
        before = shown(observer)
        with self.subTest(arguments=arguments):
            self.assertEqual(repr(told(call, *arguments)), repr((error.__name__, attributes)))
            self.assertEqual(shown(observer), before)

    def test_sizes_and_bounds(self):
        for make in (RulesObserver, lambda *sizes: RulesObserver.from_history(*sizes, [])):
            for wrong in [0, 17, *OTHER_KINDS]:
                self.assertEqual(told(make, wrong, 1, 0), ("InvalidSize", {}))
                self.assertEqual(told(make, wrong, 1, None), ("InvalidSize", {}))
            for wrong in [0, 9, *OTHER_KINDS]:
                self.assertEqual(told(make, 1, wrong, 0), ("InvalidSize", {}))
                self.assertEqual(told(make, 1, wrong, 9), ("InvalidSize", {}))
            for wrong in [9, 10, *OTHER_KINDS]:
                self.assertEqual(told(make, 1, 1, wrong), ("InvalidCount", {}))

    def each_wrong(self):
        """Requests of two blocks that are wrong, and the index."""
        right = [("read", 0), ("write", 1, 5), ("read", 1)]
        for place in range(4):
            for wrong in WRONG_REQUESTS:
                yield [*right[:place], wrong, *right[place:]], place
        yield [("read", 0)] * 41, 40
        yield [("read", 0)] * 39 + [None] * 5, 39
        for thing in [(("read", 0),), {}, *OTHER_KINDS]:
            if thing != []:
                yield thing, 0

    def test_requests_come_first(self):
        observer = RulesObserver(2, 1, 0)
        observer.see_hits([("read", 0), ("read", 0)], False, True)
        for requests, index in self.each_wrong():
            self.assert_raises(observer, InvalidRequests, observer.see, requests, None, index=index)
            self.assert_raises(observer, InvalidRequests, observer.see_hits, requests, index=index)
            self.assert_raises(observer, InvalidRequests, observer.see_hits, requests, True, None, index=index)
            self.assert_raises(observer, InvalidRequests, observer.possible_counts, requests, index=index)
            self.assert_raises(observer, InvalidRequests, observer.best_requests, [[], requests, None], index=index)

    def test_numbers_of_booleans(self):
        observer = RulesObserver(2, 1, 0)
        requests = [("read", 0), ("read", 0), ("read", 1)]
        for are_hits in ((), (False,), (False, True), (False, True, False, False), (True,) * 40):
            self.assert_raises(observer, InvalidCount, observer.see_hits, requests, *are_hits)
        self.assert_raises(observer, InvalidCount, observer.see_hits, [], False)
        # What is no boolean does not count as one; a contradiction comes later.
        for wrong in [0, 1, *[thing for thing in OTHER_KINDS if not isinstance(thing, bool)]]:
            for place in range(3):
                are_hits = [False, True, False]
                are_hits[place] = wrong
                self.assert_raises(observer, InvalidCount, observer.see_hits, requests, *are_hits)
        self.assert_raises(observer, Contradiction, observer.see_hits, requests, True, True, True)

    def test_lists_of_requests(self):
        observer = RulesObserver(2, 1, 0)
        self.assert_raises(observer, InvalidCount, observer.best_requests, [])
        for thing in [([("read", 0)],), {}, *OTHER_KINDS]:
            if not isinstance(thing, list):
                self.assert_raises(observer, InvalidRequests, observer.best_requests, thing, index=0)
            self.assert_raises(observer, InvalidRequests, observer.best_requests, [[], thing or None, [None]], index=0)

    def test_a_contradiction_changes_nothing(self):
        source = random.Random(6)
        for _ in range(30):
            hidden = Hidden(source)
            for _ in range(3):
                hidden.observe(hidden.any_observation(True))
            for observation in [hidden.any_observation(False) for _ in range(10)]:
                if not hidden.fitting(observation):
                    name, *arguments = observation
                    self.assert_raises(hidden.observer, Contradiction, getattr(hidden.observer, name), *arguments)

    def test_a_history_with_a_contradiction(self):
        history = [("see_hits", [("read", 0)], False), ("see_hits", [("read", 0)], True)]
        self.assertEqual(told(RulesObserver.from_history, 1, 1, 0, history), ("Contradiction", {}))
        history = [("see", [("read", 1)], (0,) * 6)]
        self.assertEqual(told(RulesObserver.from_history, 1, 1, 0, history), ("InvalidRequests", {"index": 0}))
        history = [("see_hits", [("read", 0)], False, True)]
        self.assertEqual(told(RulesObserver.from_history, 1, 1, 0, history), ("InvalidCount", {}))


class WholeTest(unittest.TestCase):
    def test_what_is_returned_may_be_modified(self):
        requests = [("read", 0), ("read", 0)]
        observer = RulesObserver(2, 1, 0)
        observer.see_hits(requests, False, True)
        observer.see(requests, (1, 0, 0, 1, 1, 0))
        before = shown(observer)
        observer.candidates.clear()
        history = observer.history
        history[0][1].append(None)
        history[1][1].clear()
        history.pop()
        self.assertEqual(shown(observer), before)
        counts = observer.possible_counts(requests)
        counts.append(None)
        self.assertEqual(observer.possible_counts(requests), counts[:-1])

    def test_arguments_stay_and_are_not_kept(self):
        requests, history = [("read", 0), ("read", 0)], [("see_hits", [("read", 0), ("read", 0)], False, True)]
        observer = RulesObserver(2, 1, 0)
        observer.see_hits(requests, False, True)
        observer.see(requests, (1, 0, 0, 1, 1, 0))
        same = RulesObserver.from_history(2, 1, 0, history)
        befores = [shown(observer), shown(same)]
        self.assertEqual([requests, history], [[("read", 0)] * 2, [("see_hits", [("read", 0)] * 2, False, True)]])
        requests.append(None)
        history[0][1].clear()
        history.append(None)
        self.assertEqual([shown(observer), shown(same)], befores)

    def test_observers_from_a_history_go_on_by_themselves(self):
        observer = RulesObserver(1, 1, 0)
        observer.see_hits([("read", 0), ("read", 0)], False, True)
        same = RulesObserver.from_history(1, 1, 0, observer.history)
        same.see_hits([("write", 0, 5), ("read", 0)], False, True)
        self.assertEqual([len(observer.candidates), len(observer.history)], [9, 1])
        self.assertEqual([len(same.candidates), len(same.history)], [3, 2])

    def test_blocks_called_otherwise(self):
        source = random.Random(7)
        for _ in range(50):
            hidden = Hidden(source)
            names = source.sample(range(hidden.blocks), hidden.blocks)
            other = RulesObserver(hidden.blocks, hidden.slots, hidden.bound)
            for _ in range(4):
                name, requests, *seen = observation = hidden.any_observation(source.random() < 0.7)
                found, _ = hidden.observe(observation)
                self.assertEqual(told(getattr(other, name), renamed(requests, names), *seen), found)
                self.assertEqual(other.candidates, hidden.observer.candidates)

    def test_the_largest_calls_end(self):
        source = random.Random(8)
        observer = RulesObserver(16, 8, 8)
        lists = [any_requests(source, 16, 40, 40) for _ in range(40)]
        self.assertIn(observer.best_requests(lists), range(40))
        for requests in lists:
            self.assertGreater(len(observer.possible_counts(requests)), 1)
        for requests in lists:
            _, counts, are_hits = walk(16, 8, ("back", "keep", "rare", 8), requests)
            observer.see(requests, counts)
            observer.see_hits(requests, *are_hits)
        self.assertIn(("back", "keep", "rare"), observer.candidates)


if __name__ == "__main__":
    unittest.main()

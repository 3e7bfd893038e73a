"""A pair and a model of it, to both of which all is done alike."""

import unittest

from keepbefore.errors import PairError
from keepbefore.pairs import Pair
from keepbefore.rules import Recipes, Rules
from tests.helpers import SAFE, TRIPLES, rule_parts
from tests.model import Model


def told(call, *arguments):
    """What a call gives: its value, or the name and the attributes of its error."""
    try:
        return ("value", call(*arguments))
    except PairError as error:
        return (type(error).__name__, dict(vars(error)))


def shown(pair):
    """All that a pair shows."""
    always = [pair.pending, pair.counts, rule_parts(pair.rules), pair.hits, pair.requests, pair.is_on]
    rest = [told(lambda: getattr(pair, name)) for name in ("block_values", "known", "dirty")]
    return always + [thing if kind == "value" else kind for kind, thing in rest]


def steps_of(pair):
    """How many steps a pair has done."""
    return sum(pair.counts) - pair.counts[0] - pair.counts[3]


def any_rules(source):
    return (*source.choice(TRIPLES), source.randint(0, 8))


def any_request(source, blocks, most=999):
    block = source.randrange(blocks)
    return ("read", block) if source.random() < 0.4 else ("write", block, source.randint(0, most))


def any_kept(source, model):
    """Parts of the pending writes of both disks: all, none, or any."""
    chance = source.choice([0, 0.2, 0.5, 0.8, 1])
    return tuple(tuple(at for at in range(len(waiting)) if source.random() < chance) for waiting in model.pending())


def walk(blocks, slots, rules, requests):
    """The results, the counts and the hits of these requests, by own walking."""
    model = Model(blocks, slots, rules)
    results, are_hits = [], []
    for request in requests:
        hits = model.hits
        results.append(model.call(*request)[1])
        are_hits.append(model.hits > hits)
    return results, model.counts(), are_hits


def any_requests(source, blocks, most=40, least=0):
    return [any_request(source, blocks) for _ in range(source.randint(least, most))]


def renamed(requests, names):
    """The same requests of blocks that are called otherwise."""
    return [(name, names[block], *value) for name, block, *value in requests]


def new_pair(blocks, slots, rules, recipes=SAFE):
    return Pair(blocks, slots, Rules(*rules), recipes=Recipes(*recipes))


class TwinsTestCase(unittest.TestCase):
    def start(self, blocks, slots, rules, recipes=SAFE):
        self.pair = new_pair(blocks, slots, rules, recipes)
        self.model = Model(blocks, slots, rules, recipes)
        self.done = [(blocks, slots, rules, recipes)]
        self.assert_alike()

    # By their texts, so that True is not taken for 1, nor a list for a tuple.
    def assert_alike(self):
        if repr(shown(self.pair)) != repr(self.model.shown()):
            self.assertEqual(shown(self.pair), self.model.shown(), self.done)
            self.fail(f"{shown(self.pair)} {self.model.shown()} {self.done}")

    def both(self, name, *arguments):
        """Calls a method of both, which must give and then show the same; returns what it gave."""
        self.done.append((name, *arguments))
        result = self.model.call(name, *arguments)
        if name == "set_rules":
            arguments = (Rules(*arguments[0]),)
        own = told(getattr(self.pair, name), *arguments)
        if repr(own) != repr(result):
            self.fail(f"{own} instead of {result}: {self.done}")
        self.assert_alike()
        return result

    def value_of_both(self, name, *arguments):
        kind, value = self.both(name, *arguments)
        self.assertEqual(kind, "value", self.done)
        return value

    def both_request(self, source, most=999):
        return self.both(*any_request(source, self.model.blocks, most))

    def both_restart(self, source):
        return self.value_of_both("restart", *any_kept(source, self.model))

    def assert_fails_unchanged(self, pair, error, call, *arguments, **attributes):
        before = repr(shown(pair))
        with self.subTest(arguments=arguments):
            self.assertEqual(repr(told(call, *arguments)), repr((error.__name__, attributes)))
            self.assertEqual(repr(shown(pair)), before)

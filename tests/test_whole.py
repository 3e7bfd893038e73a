"""What holds over all modules: second answers are the first ones, and arguments stay and are not kept."""

import copy
import random
import unittest

from keepbefore.bench import Bench
from keepbefore.codes import image, load
from keepbefore.comparison import first_parting
from keepbefore.costs import cheapest, cost, run
from keepbefore.disks import Disk
from keepbefore.errors import PairError, PowerFailed
from keepbefore.logs import Recorder, first_error, possible_values
from keepbefore.notation import format_setup, parse_setup
from keepbefore.observers import RulesObserver
from keepbefore.pairs import Pair
from keepbefore.plans import fewest_misses, judge_plan
from keepbefore.rounds import Repeated
from keepbefore.rules import Recipes, Rules
from keepbefore.stories import first_story, is_bad, lean, outcomes, tell
from tests.helpers import SAFE, any_recipes, recipe_parts, rule_parts
from tests.twins import any_request, any_requests, any_rules

PROPERTIES = {
    Disk: ["contents", "lasting", "pending", "counts"],
    Rules: ["writing", "reading", "choice", "bound"],
    Recipes: ["through", "back", "around", "clean"],
    Pair: ["block_values", "known", "dirty", "hits", "requests", "rules", "counts", "pending", "is_on"],
    Repeated: ["settled"],
    RulesObserver: ["candidates", "history"],
    Recorder: ["log"],
    Bench: ["rules", "recipes", "operations", "names"],
}


def spoil(thing):
    """Modifies all lists and dicts in a result."""
    if isinstance(thing, (list, tuple)):
        for part in thing:
            spoil(part)
    if isinstance(thing, list):
        thing.append("spoilt")
        thing.reverse()
    if isinstance(thing, dict):
        for part in thing.values():
            spoil(part)
        thing.clear()
        thing["spoilt"] = None


def told(thing):
    """A text of a result; objects are told by all that they show."""
    if isinstance(thing, tuple(PROPERTIES)):
        return {name: told(getattr(thing, name)) for name in PROPERTIES[type(thing)]}
    if isinstance(thing, (list, tuple)):
        return type(thing)(told(part) for part in thing)
    return repr(thing)


def copied(arguments):
    # Objects are no values, so they stay the same ones.
    return tuple(part if isinstance(part, tuple(PROPERTIES)) else copy.deepcopy(part) for part in arguments)


def answer(call, arguments):
    try:
        return call(*arguments)
    except PairError as error:
        return (type(error).__name__, vars(error))


def any_lives(source):
    """A pair behind some requests, settled and on."""
    pair = Pair(3, 2, Rules(*any_rules(source)))
    for name, *arguments in any_requests(source, 3, 10):
        getattr(pair, name)(*arguments)
    pair.settle()
    return pair


class AnswersTest(unittest.TestCase):
    def calls(self, source):
        """Calls of all functions that depend on their arguments alone."""
        blocks, slots = source.randint(1, 3), source.randint(1, 3)
        rules, other = Rules(*any_rules(source)), Rules(*any_rules(source))
        recipes = Recipes(*source.choice([SAFE, any_recipes(source)]))
        requests, reads = any_requests(source, blocks, 12), [source.randrange(6) for _ in range(8)]
        prices = tuple(source.randrange(1000) for _ in range(6))
        story = (tuple(source.choice(["around", "back", "clean", "drop", "through"]) for _ in range(2)), None)
        log = [("begin", 0, 5), ("fail",), ("lost", blocks - 1), ("begin", 0, 7)]
        operations = [("part", 3, 5), ("recipe", "clean", ("slow", "mark")), ("undo",), ("lean", "back"), ("undo",), ("redo",)]
        history = [("see_hits", [("read", 0)], False), ("see", [], (0,) * 6)]
        setup = (blocks, slots, rules, recipes, requests)
        numbers = image(any_lives(source))
        return [
            (run, (blocks, slots, rules, requests)), (cheapest, (blocks, slots, 2, requests, prices)),
            (cost, ((1, 2, 3, 4, 5, 6), prices)), (fewest_misses, (slots, reads)), (judge_plan, (slots, reads, [None] * 8)),
            (tell, (recipes, story)), (is_bad, (recipes, story)), (first_story, (recipes, 1)), (lean, (recipes, "back", 1)),
            (outcomes, (*setup[:4], requests[:3])), (Repeated, (blocks, slots, rules, requests)),
            (lambda *given: first_parting(*given, most=2), (blocks, slots, rules, other)),
            (RulesObserver.from_history, (blocks, slots, 2, history)), (first_error, (blocks, log)),
            (possible_values, (blocks, log)), (Bench.replay, (rules, recipes, operations)),
            (format_setup, setup), (parse_setup, (format_setup(*setup),)), (load, (numbers,)), (image, (load(numbers),)),
            (Recipes.safe, ()), (Rules, rule_parts(rules)), (Recipes, recipe_parts(recipes)),
        ]

    def test_functions_and_class_methods(self):
        source = random.Random(1)
        for _ in range(25):
            for call, arguments in self.calls(source):
                given = copied(arguments)
                first = answer(call, given)
                text = told(first)
                self.assertEqual(told(given), told(arguments))
                spoil(first)
                self.assertEqual(told(answer(call, given)), text)
                self.assertEqual(told(given), told(arguments))

    def test_results_do_not_hang_on_arguments(self):
        source = random.Random(2)
        for _ in range(25):
            for call, arguments in self.calls(source):
                given = copied(arguments)
                first = answer(call, given)
                text = told(first)
                spoil(given)
                self.assertEqual(told(first), text)


class ObjectsTest(unittest.TestCase):
    def questions(self, source):
        """Calls of objects that change nothing."""
        repeated = Repeated(3, 2, Rules(*any_rules(source)), any_requests(source, 3, 9, 1))
        observer = RulesObserver(3, 2, 1)
        observer.see_hits([("read", 0)], False)
        requests = any_requests(source, 3, 9)
        calls = [(call, (number,)) for number in (0, 7, 10 ** 17) for call in (
            repeated.counts_after, repeated.hits_after, repeated.is_hit, repeated.worn_after)]
        calls += [(repeated.slot_writes, (1, 10 ** 17)), (observer.possible_counts, (requests,)),
                  (observer.best_requests, ([requests, [("read", 0)], []],))]
        return [repeated, observer], calls

    def test_questions(self):
        source = random.Random(3)
        for _ in range(40):
            things, calls = self.questions(source)
            for call, arguments in calls:
                before = told(things)
                first = answer(call, arguments)
                text = told(first)
                spoil(first)
                self.assertEqual(told(answer(call, arguments)), text)
                self.assertEqual(told(things), before)

    def things(self, source):
        """Objects of all classes, in the midst of something."""
        disk = Disk(3)
        disk.write(1, 5)
        pair = Pair(3, 2, Rules("back", "keep", "used", 1))
        recorder = Recorder(pair)
        for _ in range(6):
            request = any_request(source, 3)
            getattr(recorder, request[0])(*request[1:])
        recorder.fail_at(source.randint(0, 3))
        try:
            recorder.write(0, 5)
        except PowerFailed:
            pass
        bench = Bench(Rules(*any_rules(source)), Recipes.safe())
        bench.apply([("part", 3, 2), ("undo",)])
        bench.save("a")
        return [disk, pair, recorder, bench, *self.questions(source)[0], any_lives(source), pair.rules, Recipes.safe()]

    def test_properties(self):
        source = random.Random(4)
        for _ in range(40):
            things = self.things(source)
            self.assertEqual({type(thing) for thing in things}, set(PROPERTIES))
            for thing in things:
                for name in PROPERTIES[type(thing)]:
                    first = answer(getattr, (thing, name))
                    text = told(first)
                    spoil(first)
                    self.assertEqual(told(answer(getattr, (thing, name))), text, name)

    def test_calls_whose_results_are_modified_and_calls_whose_results_are_not(self):
        source = random.Random(5)
        for _ in range(40):
            rules, seed = any_rules(source), source.random()
            spoilt = self.live(Pair(4, 2, Rules(*rules)), random.Random(seed), spoil)
            self.assertEqual(self.live(Pair(4, 2, Rules(*rules)), random.Random(seed), repr), spoilt)

    def live(self, pair, source, after):
        """The texts of all that a pair gives and shows in a life of it."""
        texts = []
        for _ in range(40):
            name, *arguments = source.choice([
                any_request(source, 4), any_request(source, 4), any_request(source, 4), ("clean_up", 1), ("lose_slow",),
                ("lose_fast",), ("give_fast", 2), ("fail_at", 4), ("cut",), ("restart", (), ()), ("restart", (), ())])
            result = answer(getattr(pair, name), arguments)
            texts.append(repr(result))
            after(result)
            for name in PROPERTIES[Pair]:
                shown = answer(getattr, (pair, name))
                texts.append(told(shown))
                after(shown)
        return texts


if __name__ == "__main__":
    unittest.main()

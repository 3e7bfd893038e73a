"""Benches: operations, taking them back and repeating them, lists of them, and names."""

import random
import unittest

from keepbefore.bench import Bench
from keepbefore.errors import InvalidCount, InvalidName, InvalidOperation, InvalidRecipes, InvalidWord, UnknownName
from keepbefore.rules import Recipes, Rules
from keepbefore.stories import first_story, lean
from tests.helpers import OTHER_KINDS, SAFE, WORDS, any_recipe, any_recipes, example_result, recipe_parts, rule_parts
from tests.twins import any_requests, any_rules, new_pair, told

EXAMPLE = """
>>> from keepbefore.bench import Bench
>>> from keepbefore.rules import Recipes, Rules
>>> bench = Bench(Rules("back", "keep", "used", 1), Recipes.safe())
>>> [bench.apply([("part", 3, 2), ("lean", "through"), ("undo",)]), bench.rules.bound, bench.operations]
[[None, None, True], 2, [('part', 3, 2)]]
"""

RECIPE_WORDS = ["through", "back", "around", "clean"]
METHODS = {"part": "set_part", "recipe": "set_recipe", "lean": "lean", "undo": "undo", "redo": "redo"}
WRONG_NAMES = ["A", "a1", "a b", " a", "a ", "a\n", "a_", "abcdefghi", "a" * 100, "\u00e4", "\u00e9", "a-b", *OTHER_KINDS]
WRONG_NAMES = [name for name in WRONG_NAMES if name not in ("slow", "back")]

# What is no operation.
NO_OPERATIONS = [
    ("part",), ("part", 0), ("part", 0, "back", 1), ("recipe",), ("recipe", "back"), ("recipe", "back", (), ()),
    ("lean",), ("lean", "back", 1), ("undo", 1), ("undo", ()), ("redo", None), ("redo", 1, 2), ("save", "a"),
    ("restore", "a"), ("Part", 3, 2), ("", 1), (["undo"],), (None, 1, 2), (3, 2), ["undo"], ["part", 3, 2], "undo",
    "redo", {}, *OTHER_KINDS,
]


def shown(bench):
    return repr([rule_parts(bench.rules), recipe_parts(bench.recipes), bench.operations, bench.names])


def ahead_and_behind(bench):
    """All that `undo` and `redo` show, from the first stage to the last one."""
    back = 0
    while bench.undo():
        back += 1
    stages = [shown(bench)]
    while bench.redo():
        stages.append(shown(bench))
    for _ in range(len(stages) - 1 - back):
        bench.undo()
    return back, stages


class OwnBench:
    """A bench by own walking: all operations that were done, from the start on, and those that were taken back."""

    leaned = {}

    def __init__(self, rules, recipes):
        self.start = (rules, recipes)
        self.done, self.back, self.saved = [], [], {}

    def state(self):
        rules, recipes = self.start
        for word, *arguments in self.done:
            if word == "part":
                part, value = arguments
                rules = (*rules[:part], value, *rules[part + 1:])
            elif word == "recipe":
                part = RECIPE_WORDS.index(arguments[0])
                recipes = (*recipes[:part], arguments[1], *recipes[part + 1:])
            else:
                recipes = self.lean(recipes, arguments[0])
        return rules, recipes

    def lean(self, recipes, word):
        key = (recipes, word)
        if key not in self.leaned:
            part = RECIPE_WORDS.index(word)
            for place in reversed(range(len(recipes[part]))):
                if recipes[part][place].startswith("sync"):
                    shorter = (*recipes[:part], recipes[part][:place] + recipes[part][place + 1:], *recipes[part + 1:])
                    if first_story(Recipes(*shorter), 1) is None:
                        recipes = shorter
            self.leaned[key] = recipes
        return self.leaned[key]

    def do(self, operation):
        word = operation[0]
        if word == "undo":
            if not self.done:
                return False
            self.back.append(self.done.pop())
        elif word == "redo":
            if not self.back:
                return False
            self.done.append(self.back.pop())
        else:
            self.done.append(operation)
            self.back = []
            return None
        return True

    def save(self, name):
        self.saved[name] = (list(self.done), list(self.back))

    def restore(self, name):
        self.done, self.back = map(list, self.saved[name])

    def shown(self):
        return repr([*self.state(), self.done, sorted(self.saved)])


def any_operation(source, leans=0.1):
    word = source.choice(["part"] * 3 + ["recipe"] * 3 + ["undo"] * 3 + ["redo"] * 2)
    if source.random() < leans:
        return ("lean", source.choice(RECIPE_WORDS))
    if word == "part":
        part = source.randrange(4)
        return ("part", part, source.randint(0, 8) if part == 3 else source.choice(WORDS[part]))
    if word == "recipe":
        part = source.randrange(4)
        return ("recipe", RECIPE_WORDS[part], SAFE[part] if source.random() < 0.3 else any_recipe(source, part))
    return (word,)


def wrong_operation(source):
    """One of a right form that raises an error."""
    part = source.randrange(4)
    return source.choice([
        ("part", source.choice([4, -1, None, True, "0", [0]]), "back"),
        ("part", part, source.choice(["least", 9, None, []])),
        ("recipe", source.choice(["slow", None, 0, []]), SAFE[0]),
        ("recipe", RECIPE_WORDS[part], source.choice([None, ("done", "done"), ["done"], ("fast", "mark")])),
        ("lean", source.choice(["slow", None, True, ()])),
    ])


def new_benches(source, recipes=None):
    rules, recipes = any_rules(source), recipes or any_recipes(source)
    return Bench(Rules(*rules), Recipes(*recipes)), OwnBench(rules, recipes)


class OperationsTest(unittest.TestCase):
    def test_the_example(self):
        result, told_result = example_result(EXAMPLE)
        self.assertEqual(repr(result), repr(told_result))

    def test_random_operations_by_own_walking(self):
        source = random.Random(1)
        for _ in range(60):
            bench, own = new_benches(source, source.choice([None, SAFE]))
            for _ in range(25):
                operation = any_operation(source)
                found = getattr(bench, METHODS[operation[0]])(*operation[1:])
                self.assertIs(found, own.do(operation))
                self.assertEqual(shown(bench), own.shown())

    def test_operations_that_change_nothing_are_operations_too(self):
        bench = Bench(Rules("back", "keep", "used", 1), Recipes.safe())
        operations = [("part", 0, "back"), ("recipe", "clean", SAFE[3]), ("lean", "around"), ("lean", "around")]
        self.assertEqual(bench.apply(operations), [None] * 4)
        self.assertEqual(bench.operations, operations)
        self.assertEqual([bench.undo() for _ in range(5)], [True] * 4 + [False])
        bench.redo()
        bench.set_part(0, "back")
        self.assertEqual([bench.redo(), bench.operations], [False, [("part", 0, "back")] * 2])

    def test_lean_is_that_of_stories_by_one_task(self):
        source = random.Random(2)
        for _ in range(20):
            recipes = source.choice([SAFE, any_recipes(source)])
            for word in RECIPE_WORDS:
                bench = Bench(Rules("back", "keep", "used", 1), Recipes(*recipes))
                self.assertIsNone(bench.lean(word))
                self.assertEqual(bench.recipes, lean(Recipes(*recipes), word, 1))
        # By two tasks, another sync has to stay.
        self.assertNotEqual(lean(Recipes.safe(), "back", 1), lean(Recipes.safe(), "back", 3))

    def test_undo_and_redo(self):
        bench = Bench(Rules("back", "keep", "used", 1), Recipes.safe())
        self.assertEqual([bench.undo(), bench.redo(), bench.operations], [False, False, []])
        for bound in (2, 3, 4):
            bench.set_part(3, bound)
        bounds = [(step, getattr(bench, step)(), bench.rules.bound) for step in ["undo"] * 4 + ["redo"] * 4]
        self.assertEqual(bounds, [
            ("undo", True, 3), ("undo", True, 2), ("undo", True, 1), ("undo", False, 1),
            ("redo", True, 2), ("redo", True, 3), ("redo", True, 4), ("redo", False, 4)])
        bench.undo()
        # An error is no operation, so that what was taken back can still be repeated.
        self.assertEqual(told(bench.set_part, 3, 9), ("InvalidRules", {"part": 3}))
        self.assertEqual([bench.redo(), bench.rules.bound], [True, 4])
        bench.undo()
        bench.set_part(3, 8)
        self.assertEqual([bench.redo(), bench.rules.bound, bench.operations[-1]], [False, 8, ("part", 3, 8)])

    def test_pairs_and_stories_by_what_a_bench_shows(self):
        source = random.Random(3)
        for _ in range(60):
            bench, own = new_benches(source)
            for _ in range(10):
                operation = any_operation(source, 0.02)
                getattr(bench, METHODS[operation[0]])(*operation[1:])
                own.do(operation)
            rules, recipes = own.state()
            self.assertEqual([bench.rules, bench.recipes], [Rules(*rules), Recipes(*recipes)])
            pairs = [new_pair(3, 2, rules, recipes), new_pair(3, 2, rule_parts(bench.rules), recipe_parts(bench.recipes))]
            for request in any_requests(source, 3, 10):
                results = [getattr(pair, request[0])(*request[1:]) for pair in pairs]
                self.assertEqual(results[0], results[1])
            self.assertEqual([pairs[0].counts, pairs[0].pending], [pairs[1].counts, pairs[1].pending])
            self.assertEqual(first_story(bench.recipes, 1), first_story(Recipes(*recipes), 1))


class ApplyTest(unittest.TestCase):
    def test_lists_by_own_walking(self):
        source = random.Random(4)
        for _ in range(60):
            bench, own = new_benches(source)
            for _ in range(6):
                operations = [any_operation(source, 0.03) for _ in range(source.randint(0, 7))]
                text = repr(operations)
                self.assertEqual(repr(bench.apply(operations)), repr([own.do(operation) for operation in operations]))
                self.assertEqual([shown(bench), repr(operations)], [own.shown(), text])

    def test_one_that_raises_an_error_leaves_all_as_it_was(self):
        source = random.Random(5)
        errors = set()
        for _ in range(150):
            bench, _ = new_benches(source)
            bench.apply([any_operation(source, 0) for _ in range(6)])
            before, stages = shown(bench), ahead_and_behind(bench)
            wrong = wrong_operation(source)
            expected = told(getattr(bench, METHODS[wrong[0]]), *wrong[1:])
            operations = [any_operation(source, 0) for _ in range(6)]
            place = source.randint(0, 6)
            found = told(bench.apply, [*operations[:place], wrong, *operations[place:], wrong_operation(source)])
            self.assertEqual(repr(found), repr(expected))
            self.assertNotEqual(expected[0], "value")
            errors.add(expected[0])
            self.assertEqual([shown(bench), ahead_and_behind(bench)], [before, stages])
        self.assertEqual(errors, {"InvalidCount", "InvalidRules", "InvalidRecipes", "InvalidWord"})

    def test_what_is_no_operation_comes_ahead_of_all(self):
        source = random.Random(6)
        bench, _ = new_benches(source)
        bench.apply([("part", 3, 2), ("part", 3, 3), ("undo",)])
        before = shown(bench), ahead_and_behind(bench)
        replayed = (bench.rules, bench.recipes)
        for wrong in NO_OPERATIONS:
            for place in (0, 1, 4):
                makers = [source.choice([lambda: any_operation(source, 0), lambda: wrong_operation(source)]) for _ in range(5)]
                operations = [make() for make in makers]
                operations = [*operations[:place], wrong, *operations[place:], None]
                for call in (bench.apply, lambda some: Bench.replay(*replayed, some)):
                    self.assertEqual(repr(told(call, operations)), repr(("InvalidOperation", {"place": place})), operations)
                self.assertEqual((shown(bench), ahead_and_behind(bench)), before)

    def test_no_list(self):
        bench, _ = new_benches(random.Random(7))
        for thing in [(("undo",),), {}, *OTHER_KINDS]:
            if not isinstance(thing, list):
                for call in (bench.apply, lambda some: Bench.replay(bench.rules, bench.recipes, some)):
                    with self.subTest(thing=thing), self.assertRaises(InvalidOperation) as caught:
                        call(thing)
                    self.assertEqual(repr(caught.exception.place), "0")

    def test_replayed_benches_and_those_that_lived_the_operations(self):
        source = random.Random(8)
        for _ in range(60):
            bench, own = new_benches(source)
            start = (bench.rules, bench.recipes)
            operations = [any_operation(source, 0.03) for _ in range(12)]
            for operation in operations:
                getattr(bench, METHODS[operation[0]])(*operation[1:])
            text = repr(operations)
            replayed = Bench.replay(*start, operations)
            self.assertEqual([shown(replayed), repr(operations)], [shown(bench), text])
            self.assertEqual(ahead_and_behind(replayed), ahead_and_behind(bench))
            again = Bench.replay(*start, bench.operations)
            self.assertEqual([shown(again), again.redo()], [shown(bench), False])

    def test_a_replay_with_errors(self):
        start = (Rules("back", "keep", "used", 1), Recipes.safe())
        self.assertEqual(told(Bench.replay, *start, [("part", 3, 2), ("part", 3, 9)]), ("InvalidRules", {"part": 3}))
        self.assertEqual(told(Bench.replay, *start, [("part", 4, 2)]), ("InvalidCount", {}))
        self.assertEqual(told(Bench.replay, *start, [("lean", "slow")]), ("InvalidWord", {}))
        wrong = [("recipe", "clean", ("slow", "done"))]
        self.assertEqual(told(Bench.replay, *start, wrong), ("InvalidRecipes", {"part": 3, "place": 1}))
        self.assertEqual(told(Bench.replay, *start, [("part", 3, 9), ("undo", 1)]), ("InvalidOperation", {"place": 1}))


class NamesTest(unittest.TestCase):
    def test_saves_and_restores_between_operations(self):
        source = random.Random(9)
        for _ in range(60):
            bench, own = new_benches(source)
            for _ in range(40):
                name = source.choice(["a", "b", "zz", "abcdefgh"])
                step = source.random()
                if step < 0.15:
                    self.assertIsNone(bench.save(name))
                    own.save(name)
                elif step < 0.35:
                    if name in own.saved:
                        self.assertIsNone(bench.restore(name))
                        own.restore(name)
                    else:
                        self.assertEqual(told(bench.restore, name), ("UnknownName", {}))
                else:
                    operation = any_operation(source, 0.01)
                    self.assertIs(getattr(bench, METHODS[operation[0]])(*operation[1:]), own.do(operation))
                self.assertEqual(shown(bench), own.shown())
            back, stages = ahead_and_behind(bench)
            self.assertEqual([back, len(stages)], [len(own.done), len(own.done) + len(own.back) + 1])

    def test_neither_is_an_operation(self):
        bench = Bench(Rules("back", "keep", "used", 1), Recipes.safe())
        bench.apply([("part", 3, 2), ("part", 3, 3), ("undo",)])
        bench.save("one")
        self.assertEqual([bench.operations, bench.redo(), bench.rules.bound], [[("part", 3, 2)], True, 3])
        bench.restore("one")
        self.assertEqual([bench.rules.bound, bench.redo(), bench.rules.bound], [2, True, 3])
        bench.restore("one")
        self.assertEqual([bench.undo(), bench.undo(), bench.rules.bound], [True, False, 1])

    def test_what_is_stored_stays_stored(self):
        bench = Bench(Rules("back", "keep", "used", 1), Recipes.safe())
        bench.save("b")
        bench.set_part(3, 5)
        bench.save("a")
        bench.restore("b")
        self.assertEqual([bench.rules.bound, bench.names], [1, ["a", "b"]])
        bench.set_part(3, 7)
        bench.restore("a")
        self.assertEqual([bench.rules.bound, bench.operations], [5, [("part", 3, 5)]])
        bench.restore("b")
        self.assertEqual([bench.rules.bound, bench.operations, bench.redo()], [1, [], False])
        # Another save under a name replaces what was there.
        bench.set_part(3, 8)
        bench.save("b")
        bench.undo()
        bench.restore("b")
        self.assertEqual([bench.rules.bound, bench.names], [8, ["a", "b"]])

    def test_names(self):
        bench = Bench(Rules("back", "keep", "used", 1), Recipes.safe())
        names = ["z", "a", "abcdefgh", "zzzzzzzz", "abcdefg", "slow"]
        for name in names:
            bench.save(name)
        self.assertEqual(bench.names, sorted(names))
        before = shown(bench)
        for wrong in WRONG_NAMES:
            with self.subTest(wrong=wrong), self.assertRaises(InvalidName):
                bench.save(wrong)
            with self.subTest(wrong=wrong), self.assertRaises(UnknownName):
                bench.restore(wrong)
            self.assertEqual(shown(bench), before)
        with self.assertRaises(UnknownName):
            bench.restore("b")

    def test_saved_stages_are_kept_when_a_list_fails(self):
        bench = Bench(Rules("back", "keep", "used", 1), Recipes.safe())
        bench.set_part(3, 2)
        bench.save("a")
        told(bench.apply, [("undo",), ("part", 3, 4), ("part", 3, 9)])
        self.assertEqual([bench.rules.bound, bench.names], [2, ["a"]])
        bench.restore("a")
        self.assertEqual([bench.rules.bound, bench.undo(), bench.rules.bound], [2, True, 1])


class ErrorsTest(unittest.TestCase):
    def setUp(self):
        self.bench = Bench(Rules("back", "keep", "used", 1), Recipes.safe())
        self.bench.apply([("part", 3, 2), ("part", 3, 3), ("undo",)])

    def assert_raises(self, error, call, *arguments, **attributes):
        before = shown(self.bench), ahead_and_behind(self.bench)
        with self.subTest(arguments=arguments):
            self.assertEqual(repr(told(call, *arguments)), repr((error.__name__, attributes)))
            self.assertEqual((shown(self.bench), ahead_and_behind(self.bench)), before)

    def test_parts(self):
        for wrong in [4, 5, *OTHER_KINDS]:
            for value in ("back", None, 0):
                self.assert_raises(InvalidCount, self.bench.set_part, wrong, value)

    def test_values_of_parts(self):
        allowed = [*WORDS, list(range(9))]
        for part in range(4):
            for value in ["through", "keep", "used", "least", "Back", 0, 8, 9, *OTHER_KINDS]:
                if value not in allowed[part] or isinstance(value, bool):
                    self.assertEqual(repr(told(self.bench.set_part, part, value)), repr(("InvalidRules", {"part": part})))
                else:
                    self.assertEqual(told(self.bench.set_part, part, value), ("value", None))
                    self.assertEqual(rule_parts(self.bench.rules)[part], value)

    def test_words(self):
        for wrong in ["used", "Back", "undo", *OTHER_KINDS]:
            if wrong != "back":
                self.assert_raises(InvalidWord, self.bench.set_recipe, wrong, SAFE[0])
                self.assert_raises(InvalidWord, self.bench.set_recipe, wrong, None)
                self.assert_raises(InvalidWord, self.bench.lean, wrong)

    def test_recipes(self):
        for part, word in enumerate(RECIPE_WORDS):
            for thing in OTHER_KINDS:
                if not (thing == () and part == 3) and thing != ("done",):
                    self.assert_raises(InvalidRecipes, self.bench.set_recipe, word, thing, part=part, place=0)
            self.assert_raises(InvalidRecipes, self.bench.set_recipe, word, ("slow", "slow"), part=part, place=1)
            self.assert_raises(InvalidRecipes, self.bench.set_recipe, word, ("sync slow",) * 9, part=part, place=8)
            self.assert_raises(InvalidRecipes, self.bench.set_recipe, word, ["slow", "done"], part=part, place=0)
        self.assert_raises(InvalidRecipes, self.bench.set_recipe, "clean", ("done",), part=3, place=0)
        self.assert_raises(InvalidRecipes, self.bench.set_recipe, "around", ("slow", "free"), part=2, place=2)


class WholeTest(unittest.TestCase):
    def test_what_is_returned_may_be_modified(self):
        bench = Bench(Rules("back", "keep", "used", 1), Recipes.safe())
        results = bench.apply([("part", 3, 2), ("undo",), ("redo",)])
        bench.save("a")
        before = shown(bench), ahead_and_behind(bench)
        for some in (results, bench.operations, bench.names):
            some.clear()
        self.assertEqual((shown(bench), ahead_and_behind(bench)), before)

    def test_arguments_are_not_kept(self):
        operations = [("part", 3, 2), ("recipe", "clean", ("slow",))]
        bench = Bench.replay(Rules("back", "keep", "used", 1), Recipes.safe(), operations)
        other = Bench(Rules("back", "keep", "used", 1), Recipes.safe())
        other.apply(operations)
        operations.clear()
        self.assertEqual(bench.operations, [("part", 3, 2), ("recipe", "clean", ("slow",))])
        self.assertEqual(other.operations, bench.operations)

    def test_many_operations_end(self):
        source = random.Random(10)
        bench, own = new_benches(source)
        operations = [any_operation(source, 0) for _ in range(1000)]
        self.assertEqual(bench.apply(operations), [own.do(operation) for operation in operations])
        self.assertEqual(shown(bench), own.shown())


if __name__ == "__main__":
    unittest.main()

"""Stories: what is told, which ones are bad, the first one, and recipes that are leaned."""

import itertools
import random
import unittest

from keepbefore.errors import InvalidCount, InvalidStory, InvalidWord, PairError
from keepbefore.pairs import Pair
from keepbefore.rules import Recipes, Rules
from keepbefore.stories import first_story, is_bad, lean, tell
from tests.helpers import OTHER_KINDS, SAFE, STEPS, SYNCS, any_recipes, example_result, recipe_parts
from tests.model import Model, all_left

EXAMPLES = ["""
>>> from keepbefore.rules import Recipes
>>> from keepbefore.stories import tell
>>> tell(Recipes.safe(), (("back", "around"), (2, (), ())))
1
""", """
>>> from keepbefore.rules import Recipes
>>> from keepbefore.stories import first_story
>>> safe = Recipes.safe()
>>> first_story(Recipes(("slow", "done", "sync slow"), safe.back, safe.around, safe.clean), 1)
(('through',), (1, (), ()))
"""]

TASKS = ["around", "back", "clean", "drop", "through"]
WRITES = ["around", "back", "through"]
WORDS = ["through", "back", "around", "clean"]


def walked(recipes, tasks, steps=None):
    """A model that carried out the tasks, in the last one until so many steps were done; and whether all is over."""
    model = Model(1, 2, ("through", "pass", "used", 8), recipes)
    value = 0
    for number, task in enumerate(tasks):
        if number == len(tasks) - 1:
            model.left = steps
            ahead = model.steps
        if task in WRITES:
            value += 1
            if model.is_on:
                model.rules = (task, "pass", "used", 8)
            result = model.call("write", 0, value)
        else:
            result = model.call("clean_up", 1) if task == "clean" else model.call("forget", 0)
    return model, model.steps - ahead, result


def right_values(tasks, result):
    """The values that are not wrong when the last task gave this."""
    value = sum(task in WRITES for task in tasks)
    if tasks[-1] in WRITES and result == ("PowerFailed", {"is_done": False}):
        return {value - 1, value}
    return {value}


def all_stories(recipes, tasks):
    """All failures of the last task in their order, each with the value that is read and those that are right."""
    model, many, result = walked(recipes, tasks)
    yield None, model.block_values()[0], right_values(tasks, result)
    for steps in range(many + 1):
        model, _, result = walked(recipes, tasks, steps)
        for slow_kept, fast_kept, values in all_left(model):
            yield (steps, slow_kept, fast_kept), values[0], right_values(tasks, result)


def first_by_all(recipes, most):
    for many in range(1, most + 1):
        for tasks in itertools.product(TASKS, repeat=many):
            for failure, value, right in all_stories(recipes, tasks):
                if value not in right:
                    return (tasks, failure)
    return None


def lean_by_all(recipes, word, most):
    parts = list(recipes)
    part = WORDS.index(word)
    for place in range(len(parts[part]) - 1, -1, -1):
        shorter = (*parts[:part], parts[part][:place] + parts[part][place + 1:], *parts[part + 1:])
        if parts[part][place] in SYNCS and first_by_all(shorter, most) is None:
            parts = list(shorter)
    return tuple(parts)


def add_syncs(source, recipes, many):
    """The recipes with so many syncs more at any places, as far as there is room."""
    parts = [list(recipe) for recipe in recipes]
    for _ in range(many):
        part = source.choice([recipe for recipe in parts if len(recipe) < 8])
        part.insert(source.randint(0, len(part)), source.choice(SYNCS))
    return tuple(map(tuple, parts))


def change_one(source, recipes):
    """The recipes with a word missing, moved or exchanged in one of them."""
    parts = [list(recipe) for recipe in recipes]
    part = source.randrange(4)
    words = parts[part]
    place = source.randrange(len(words))
    word = words.pop(place)
    if word == "done" or source.random() < 0.5:
        words.insert(source.randint(0, len(words)), word)
    elif source.random() < 0.3:
        others = [other for other in STEPS[part] if other in SYNCS or other not in words]
        words.insert(place, source.choice(others))
    return tuple(map(tuple, parts))


def close_recipes(source):
    """Recipes close to the safe ones, so that only longer stories are bad, if any."""
    recipes = add_syncs(source, SAFE, source.randint(0, 4))
    for _ in range(source.randint(1, 3)):
        recipes = change_one(source, recipes)
    return recipes


class ExamplesTest(unittest.TestCase):
    def test_the_examples(self):
        for example in EXAMPLES:
            result, told = example_result(example)
            self.assertEqual(repr(result), repr(told))


class TellTest(unittest.TestCase):
    def check(self, recipes, tasks, failure, value, right):
        story = (tasks, failure)
        given = Recipes(*recipes)
        self.assertEqual(repr(tell(given, story)), repr(value), (recipes, story))
        self.assertIs(is_bad(given, story), value not in right, (recipes, story))

    def test_all_failures_of_random_recipes_and_tasks(self):
        source = random.Random(1)
        bad = 0
        for number in range(400):
            recipes = any_recipes(source) if number % 2 else close_recipes(source)
            tasks = tuple(source.choice(TASKS) for _ in range(source.randint(1, 4)))
            stories = list(all_stories(recipes, tasks))
            for failure, value, right in stories[:1] + source.sample(stories, min(len(stories), 40)):
                self.check(recipes, tasks, failure, value, right)
                bad += value not in right
        self.assertGreater(bad, 500)

    def test_all_tasks_with_the_safe_recipes(self):
        for many in (1, 2):
            for tasks in itertools.product(TASKS, repeat=many):
                for failure, value, right in all_stories(SAFE, tasks):
                    self.check(SAFE, tasks, failure, value, right)
                    self.assertIn(value, right)

    def test_on_a_pair_by_hand(self):
        source = random.Random(2)
        for _ in range(300):
            recipes = close_recipes(source)
            tasks = tuple(source.choice(TASKS) for _ in range(source.randint(1, 4)))
            failure, _, _ = source.choice(list(all_stories(recipes, tasks)))
            self.assertEqual(tell(Recipes(*recipes), (tasks, failure)), self.by_hand(recipes, tasks, failure))

    def by_hand(self, recipes, tasks, failure):
        pair = Pair(1, 2, Rules("back", "keep", "rare", 3), recipes=Recipes(*recipes))
        for number, task in enumerate(tasks):
            if failure is not None and number == len(tasks) - 1:
                pair.fail_at(failure[0])
            try:
                if task == "clean":
                    pair.clean_up(1)
                elif task == "drop":
                    pair.forget(0)
                else:
                    pair.set_rules(Rules(task, "pass", "used", 8))
                    pair.write(0, 1 + sum(word in WRITES for word in tasks[:number]))
            except PairError:
                pass
        if failure is not None:
            if pair.is_on:
                pair.cut()
            pair.restart(failure[1], failure[2])
        return pair.read(0)

    def test_values_are_counted_from_1(self):
        safe = Recipes.safe()
        for tasks, value in [(("back",), 1), (("clean",), 0), (("drop", "clean"), 0), (("around", "clean", "back"), 2),
                             (("through", "drop", "back", "around"), 3), (("back",) * 4, 4)]:
            self.assertEqual([tell(safe, (tasks, None)), is_bad(safe, (tasks, None))], [value, False])

    def test_a_task_with_nothing_to_do_has_no_steps(self):
        safe = Recipes.safe()
        for tasks in [("clean",), ("drop",), ("back", "drop"), ("through", "clean"), ("back", "clean", "clean")]:
            self.assertEqual(tell(safe, (tasks, (0, (), ()))), sum(task in WRITES for task in tasks))
            with self.assertRaises(InvalidStory):
                tell(safe, (tasks, (1, (), ())))

    def test_a_failure_behind_the_last_step_comes_when_the_write_is_done(self):
        recipes = Recipes(("slow", "done"), *SAFE[1:])
        self.assertIs(is_bad(recipes, (("through",), (0, (), ()))), False)
        self.assertIs(is_bad(recipes, (("through",), (1, (), ()))), True)
        self.assertIs(is_bad(recipes, (("through",), (1, (0,), ()))), False)

    def test_repeated_calls_tell_the_same(self):
        recipes = Recipes.safe()
        story = (("back", "around"), (2, (), ()))
        self.assertEqual({tell(recipes, story) for _ in range(3)}, {1})
        self.assertEqual(recipes, Recipes.safe())


class InvalidStoryTest(unittest.TestCase):
    def assert_invalid(self, recipes, story):
        for judge in (tell, is_bad):
            with self.subTest(story=story), self.assertRaises(InvalidStory) as caught:
                judge(recipes, story)
            self.assertIs(type(caught.exception), InvalidStory)

    def test_what_is_no_story(self):
        safe = Recipes.safe()
        tasks, failure = ("back", "around"), (2, (), ())
        self.assertEqual(tell(safe, (tasks, failure)), 1)
        wrong = [*OTHER_KINDS, (), (tasks,), (tasks, failure, None), [tasks, failure], tasks, failure, {}]
        wrong += [(list(tasks), failure), (tasks, list(failure)), ((), None), ((), failure), (("back",) * 5, None)]
        wrong += [((word, "back"), None) for word in ["", "Back", "slow", "forget", ["back"], ("back",), *OTHER_KINDS]
                  if word != "back"]
        wrong += [(("back", word), None) for word in OTHER_KINDS if word != "back"]
        wrong += [(thing, None) for thing in OTHER_KINDS if thing != ("back",)]
        wrong += [(tasks, thing) for thing in OTHER_KINDS if thing is not None]
        wrong += [(tasks, (2, ())), (tasks, (2, (), (), ())), (tasks, (2,))]
        for story in wrong:
            self.assert_invalid(safe, story)

    def test_failures_of_other_forms(self):
        safe = Recipes.safe()
        for thing in OTHER_KINDS:
            self.assert_invalid(safe, (("back",), (thing, (), ())))
            if thing != ():
                self.assert_invalid(safe, (("back",), (0, thing, ())))
                self.assert_invalid(safe, (("back",), (0, (), thing)))

    def test_failures_that_do_not_fit_the_recipes(self):
        source = random.Random(1)
        for number in range(150):
            recipes = any_recipes(source) if number % 2 else close_recipes(source)
            tasks = tuple(source.choice(TASKS) for _ in range(source.randint(1, 4)))
            _, many, _ = walked(recipes, tasks)
            given = Recipes(*recipes)
            for steps in (many + 1, many + 2, 15, 16, 999, 1000, 10 ** 20, -1):
                if not 0 <= steps <= many:
                    self.assert_invalid(given, (tasks, (steps, (), ())))
            for steps in range(many + 1):
                model, _, _ = walked(recipes, tasks, steps)
                slow, fast = [len(writes) for writes in model.pending()]
                self.assertIsInstance(tell(given, (tasks, (steps, tuple(range(slow)), tuple(range(fast))))), int)
                for wrong in [(slow,), (*range(slow), slow), (-1,), (0, 0), (1, 0), (True,), [*range(slow)]]:
                    self.assert_invalid(given, (tasks, (steps, wrong, ())))
                for wrong in [(fast,), (*range(fast), fast), (-1,), (0, 0), (1, 0), (False,), [*range(fast)]]:
                    self.assert_invalid(given, (tasks, (steps, (), wrong)))


class FirstStoryTest(unittest.TestCase):
    def check(self, recipes, most):
        given = Recipes(*recipes)
        story = first_story(given, most)
        self.assertEqual(repr(story), repr(first_by_all(recipes, most)), recipes)
        if story is not None:
            self.assertIs(is_bad(given, story), True)
        return story

    def test_by_going_through_all_with_up_to_two_tasks(self):
        source = random.Random(1)
        found = []
        for number in range(350):
            recipes = any_recipes(source) if number % 3 == 0 else close_recipes(source)
            story = self.check(recipes, source.randint(1, 2))
            found.append(0 if story is None else len(story[0]))
        self.assertTrue(all(found.count(many) > 20 for many in range(3)), found)

    def test_by_going_through_all_with_three_tasks(self):
        source = random.Random(2)
        found = []
        while found.count(3) < 6:
            recipes = close_recipes(source)
            story = first_story(Recipes(*recipes), 3)
            found.append(0 if story is None else len(story[0]))
            if found[-1] == 3 or (found[-1] == 0 and found.count(0) < 3):
                self.check(recipes, 3)

    def test_the_safe_recipes_have_none(self):
        for most in range(4):
            self.assertIsNone(first_story(Recipes.safe(), most))
        self.assertIsNone(first_by_all(SAFE, 2))

    def test_the_safe_recipes_have_none_with_syncs_more(self):
        source = random.Random(3)
        for _ in range(100):
            recipes = add_syncs(source, SAFE, source.randint(1, 4))
            self.assertIsNone(first_story(Recipes(*recipes), 3), recipes)
        for _ in range(10):
            self.assertIsNone(first_by_all(add_syncs(source, SAFE, 4), 2))

    def test_always_none_with_no_tasks(self):
        source = random.Random(4)
        for _ in range(50):
            self.assertIsNone(first_story(Recipes(*any_recipes(source)), 0))

    def test_recipes_with_one_step_missing_too_early_or_not_synced(self):
        through, back, around, clean = SAFE
        faults = [
            # "slow" not synced, and "done" ahead of its sync.
            ((("slow", "fast", "sync fast", "done"), back, around, clean), 1),
            ((("slow", "done", "sync slow", "fast", "sync fast"), back, around, clean), 1),
            # An old record stays known.
            ((("slow", "sync slow", "done"), back, around, clean), 2),
            ((through, ("fast", "done", "free", "sync fast"), around, clean), 1),
            # The old record is freed too early, or never, or for a while only.
            ((through, ("free", "sync fast", "fast", "sync fast", "done"), around, clean), 2),
            ((through, back, ("slow", "sync slow", "done"), clean), 2),
            ((through, back, ("slow", "sync slow", "free", "done"), clean), 2),
            # Marked as clean while the slow disk can lose it, and never written there.
            ((through, back, around, ("slow", "mark", "sync fast", "sync slow")), 2),
            ((through, back, around, ("mark", "sync fast")), 2),
        ]
        for recipes, fewest in faults:
            given = Recipes(*recipes)
            for most in range(4):
                story = first_story(given, most)
                if most < fewest:
                    self.assertIsNone(story, recipes)
                else:
                    self.assertEqual(len(story[0]), fewest, recipes)
                    self.assertIs(is_bad(given, story), True)
                    self.assertEqual(story, first_by_all(recipes, fewest))

    def test_numbers_of_tasks(self):
        for most in [4, 5, *OTHER_KINDS]:
            with self.subTest(most=most), self.assertRaises(InvalidCount):
                first_story(Recipes.safe(), most)


class LeanTest(unittest.TestCase):
    def test_by_going_through_all_syncs(self):
        source = random.Random(1)
        for number in range(120):
            recipes = add_syncs(source, SAFE, source.randint(0, 4)) if number % 2 else close_recipes(source)
            word = source.choice(WORDS)
            most = source.choice([0, 1, 1, 2])
            result = lean(Recipes(*recipes), word, most)
            self.assertIsInstance(result, Recipes)
            self.assertEqual(recipe_parts(result), lean_by_all(recipes, word, most), (recipes, word, most))

    def test_no_bad_story_comes_and_each_sync_left_is_needed(self):
        source = random.Random(2)
        for _ in range(60):
            recipes = add_syncs(source, SAFE, source.randint(0, 4))
            most = source.randint(1, 3)
            for part, word in enumerate(WORDS):
                result = lean(Recipes(*recipes), word, most)
                self.assertIsNone(first_story(result, most))
                parts = recipe_parts(result)
                self.check_steps(recipes, parts, part)
                for place, step in enumerate(parts[part]):
                    if step in SYNCS:
                        shorter = parts[part][:place] + parts[part][place + 1:]
                        less = Recipes(*parts[:part], shorter, *parts[part + 1:])
                        self.assertIsNotNone(first_story(less, most), (recipes, word, most))

    def check_steps(self, recipes, parts, part):
        """Only syncs of the one recipe are missing."""
        self.assertEqual([*parts[:part], *parts[part + 1:]], [*recipes[:part], *recipes[part + 1:]])
        self.assertEqual([step for step in parts[part] if step not in SYNCS],
                         [step for step in recipes[part] if step not in SYNCS])
        rest = iter(recipes[part])
        self.assertTrue(all(step in rest for step in parts[part]))

    def test_without_tasks_all_syncs_go(self):
        for part, word in enumerate(WORDS):
            parts = recipe_parts(lean(Recipes.safe(), word, 0))
            self.check_steps(SAFE, parts, part)
            self.assertFalse(any(step in SYNCS for step in parts[part]))

    def test_of_equal_syncs_the_last_ones_go(self):
        through = ("sync slow", "slow", "sync slow", "sync slow", "fast", "sync fast", "done", "sync slow")
        result = lean(Recipes(through, *SAFE[1:]), "through", 1)
        self.assertEqual(result.through, ("slow", "sync slow", "fast", "done"))
        through = ("slow", "sync slow", "fast", "sync slow", "done", "sync fast")
        result = lean(Recipes(through, *SAFE[1:]), "through", 1)
        self.assertEqual(result.through, ("slow", "sync slow", "fast", "done"))

    def test_the_given_recipes_stay(self):
        recipes = Recipes.safe()
        for word in WORDS:
            lean(recipes, word, 1)
        self.assertEqual(recipes, Recipes.safe())

    def test_recipes_with_bad_stories_are_leaned_only_where_none_is_left(self):
        recipes = Recipes(("slow", "done", "sync slow", "sync fast"), *SAFE[1:])
        self.assertEqual(lean(recipes, "through", 1), recipes)

    def test_words_and_numbers_of_tasks(self):
        safe = Recipes.safe()
        for word in ["", "Back", "write", "slow", "sync slow", ["back"], ("back",), *OTHER_KINDS]:
            if word != "back":
                for most in (1, 4, None):
                    with self.subTest(word=word), self.assertRaises(InvalidWord):
                        lean(safe, word, most)
        for word in WORDS:
            for most in [4, 5, *OTHER_KINDS]:
                with self.subTest(most=most), self.assertRaises(InvalidCount):
                    lean(safe, word, most)
                # Also where there is no sync to leave out.
                with self.subTest(most=most), self.assertRaises(InvalidCount):
                    lean(Recipes(("done",), ("done",), ("done",), ()), word, most)


class LargeTest(unittest.TestCase):
    def test_the_largest_calls_end(self):
        long = Recipes(*add_syncs(random.Random(1), SAFE, 13))
        self.assertEqual([len(recipe) for recipe in recipe_parts(long)], [8] * 4)
        self.assertIsNone(first_story(long, 3))
        for word in WORDS:
            self.assertIsNone(first_story(lean(long, word, 3), 3))


if __name__ == "__main__":
    unittest.main()

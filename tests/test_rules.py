"""Rules and recipes, valid ones and what is first wrong with others."""

import itertools
import random
import unittest

from keepbefore.errors import InvalidRecipes, InvalidRules
from keepbefore.rules import Recipes, Rules
from tests.helpers import (
    OTHER_KINDS, SAFE, STEPS, SYNCS, WORDS, WRITE_STEPS, any_recipe, any_recipes, example_result, recipe_parts, rule_parts,
)

ALL_RULES = list(itertools.product(*WORDS, range(9)))

EXAMPLES = ["""
>>> from keepbefore.rules import Rules
>>> Rules("back", "keep", "least", 1)
raises InvalidRules(part=2)
""", """
>>> from keepbefore.rules import Recipes
>>> Recipes(("slow", "done"), ("fast", "fast", "done"), (), ())
raises InvalidRecipes(part=1, place=1)
"""]


def any_words(source):
    words = [*WRITE_STEPS, "mark", *SYNCS, *SYNCS]
    recipe = [source.choice(words) for _ in range(source.randint(0, 10))]
    if recipe and source.random() < 0.3:
        recipe[source.randrange(len(recipe))] = source.choice(["", "sync", "Slow", "done ", *OTHER_KINDS])
    return tuple(recipe)


def wrong_place(recipe, part):
    """The first wrong place of a tuple, or None: each fault is looked for on its own."""
    places = list(range(len(recipe)))
    wrong = [place for place in places if all(recipe[place] != word for word in STEPS[part])]
    wrong += [late for early, late in itertools.combinations(places, 2)
              if recipe[early] == recipe[late] and recipe[late] not in SYNCS]
    wrong += [8] * (len(recipe) > 8)
    if part < 3 and recipe.count("done") == 0:
        wrong.append(len(recipe))
    return min(wrong, default=None)


class ExamplesTest(unittest.TestCase):
    def test_the_examples(self):
        for example in EXAMPLES:
            result, told = example_result(example)
            self.assertEqual(result, told)


class RulesTest(unittest.TestCase):
    def assert_invalid(self, parts, part):
        with self.subTest(parts=parts), self.assertRaises(InvalidRules) as caught:
            Rules(*parts)
        self.assertEqual(repr(caught.exception.part), repr(part))

    def test_parts(self):
        for parts in ALL_RULES:
            self.assertEqual(repr(rule_parts(Rules(*parts))), repr(parts))

    def test_equal_if_all_parts_are(self):
        for parts in ALL_RULES:
            rules = Rules(*parts)
            for other in ALL_RULES:
                self.assertIs(rules == Rules(*other), parts == other)
                self.assertIs(rules != Rules(*other), parts != other)

    def test_not_equal_to_anything_else(self):
        parts = ("back", "keep", "used", 1)
        for other in [parts, list(parts), Recipes.safe(), Rules, *parts, *OTHER_KINDS]:
            self.assertIs(Rules(*parts) == other, False)
            self.assertIs(Rules(*parts) != other, True)
            self.assertIs(other == Rules(*parts), False)

    def test_they_never_change(self):
        rules = Rules("back", "keep", "used", 1)
        for name, value in [("writing", "through"), ("reading", "pass"), ("choice", "rare"), ("bound", 2)]:
            with self.assertRaises(AttributeError):
                setattr(rules, name, value)
        self.assertEqual(rule_parts(rules), ("back", "keep", "used", 1))

    def test_one_invalid_part(self):
        for parts in ALL_RULES:
            for part in range(3):
                others = [word for words in WORDS if words != WORDS[part] for word in words]
                for thing in [*others, "Back", " keep", "used ", "least", [parts[part]], (parts[part],), 0, 1]:
                    self.assert_invalid((*parts[:part], thing, *parts[part + 1:]), part)

    def test_parts_of_other_kinds(self):
        for thing in OTHER_KINDS:
            if thing != "back":
                self.assert_invalid((thing, "keep", "used", 1), 0)
            self.assert_invalid(("back", thing, "used", 1), 1)
            self.assert_invalid(("back", "keep", thing, 1), 2)
            self.assert_invalid(("back", "keep", "used", thing), 3)

    def test_the_bound(self):
        for bound in range(9):
            self.assertEqual(Rules("back", "keep", "used", bound).bound, bound)
        for bound in [-2, -1, 9, 10, 99, "8", [1], (1,), True, False, None]:
            self.assert_invalid(("back", "keep", "used", bound), 3)

    def test_the_first_of_several_invalid_parts(self):
        valid = ("around", "pass", "rare", 8)
        for wrong in itertools.product([False, True], repeat=4):
            for thing in [None, True, "least", 9, [], ("back",)]:
                parts = tuple(thing if is_wrong else part for part, is_wrong in zip(valid, wrong))
                if any(wrong):
                    self.assert_invalid(parts, wrong.index(True))
                else:
                    self.assertEqual(rule_parts(Rules(*parts)), valid)

    def test_parts_by_name(self):
        rules = Rules(bound=0, choice="came", reading="pass", writing="around")
        self.assertEqual(rules, Rules("around", "pass", "came", 0))


class RecipesTest(unittest.TestCase):
    def assert_invalid(self, recipes, part, place):
        with self.subTest(recipes=recipes), self.assertRaises(InvalidRecipes) as caught:
            Recipes(*recipes)
        self.assertEqual(repr((caught.exception.part, caught.exception.place)), repr((part, place)))

    def assert_wrong_at(self, recipe, part, place):
        """With this recipe in the part, and the safe ones in the others."""
        self.assert_invalid((*SAFE[:part], recipe, *SAFE[part + 1:]), part, place)

    def test_the_safe_recipes(self):
        self.assertEqual(recipe_parts(Recipes.safe()), SAFE)
        self.assertEqual(Recipes.safe(), Recipes(*SAFE))
        self.assertIsInstance(Recipes.safe(), Recipes)

    def test_random_parts(self):
        source = random.Random(1)
        for _ in range(500):
            recipes = any_recipes(source)
            self.assertEqual(recipe_parts(Recipes(*recipes)), recipes)

    def test_equal_if_all_recipes_are(self):
        source = random.Random(2)
        for _ in range(300):
            recipes = any_recipes(source)
            self.assertIs(Recipes(*recipes) == Recipes(*recipes), True)
            self.assertIs(Recipes(*recipes) != Recipes(*recipes), False)
            for part in range(4):
                recipe = any_recipe(source, part)
                other = (*recipes[:part], recipe, *recipes[part + 1:])
                self.assertIs(Recipes(*recipes) == Recipes(*other), recipe == recipes[part])
                self.assertIs(Recipes(*recipes) != Recipes(*other), recipe != recipes[part])

    def test_not_equal_with_recipes_at_other_places(self):
        self.assertNotEqual(Recipes(SAFE[1], SAFE[0], *SAFE[2:]), Recipes.safe())

    def test_not_equal_to_anything_else(self):
        for other in [SAFE, list(SAFE), Rules("back", "keep", "used", 1), Recipes, *SAFE, *OTHER_KINDS]:
            self.assertIs(Recipes.safe() == other, False)
            self.assertIs(Recipes.safe() != other, True)
            self.assertIs(other == Recipes.safe(), False)

    def test_they_never_change(self):
        recipes = Recipes.safe()
        for name in ("through", "back", "around", "clean"):
            with self.assertRaises(AttributeError):
                setattr(recipes, name, ("done",))
        self.assertEqual(recipe_parts(recipes), SAFE)

    def test_the_shortest_and_the_longest(self):
        shortest = (("done",), ("done",), ("done",), ())
        self.assertEqual(recipe_parts(Recipes(*shortest)), shortest)
        writing = (*["sync slow"] * 7, "done")
        longest = (writing, writing, writing, ("sync fast",) * 8)
        self.assertEqual(recipe_parts(Recipes(*longest)), longest)

    def test_a_ninth_word(self):
        for part in range(4):
            end = ("done",) * (part < 3)
            syncs = ("sync fast",) * (8 - len(end))
            for more in (("sync slow",), ("slow",), ("other",), (None,), ("slow", "slow"), ("done",)):
                self.assert_wrong_at((*syncs, *end, *more), part, 8)
            self.assert_wrong_at(("sync slow",) * 8 + ("done",), part, 8)
            self.assert_wrong_at(("sync slow",) * 30, part, 8)
            self.assert_wrong_at(("slow", "slow", *["sync slow"] * 8), part, 1)

    def test_an_invalid_word(self):
        words = ["", "Slow", "sync-slow", "sync", " done", "other", *OTHER_KINDS]
        for part in range(4):
            strange = "mark" if part < 3 else "fast"
            for word in [strange, ("slow",), ["slow"], *words]:
                if word == "slow":
                    continue
                for place in range(len(SAFE[part]) + 1):
                    recipe = (*SAFE[part][:place], word, *SAFE[part][place:])
                    self.assert_wrong_at(recipe, part, place)
        for word in ("fast", "free", "done"):
            self.assert_wrong_at(("slow", word), 3, 1)

    def test_a_repeated_word(self):
        for part in range(4):
            for word in STEPS[part]:
                end = ("done",) * (part < 3 and word != "done")
                recipe = (word, "sync slow", word, *end)
                if word in SYNCS:
                    parts = (*SAFE[:part], recipe, *SAFE[part + 1:])
                    self.assertEqual(recipe_parts(Recipes(*parts)), parts)
                else:
                    self.assert_wrong_at(recipe, part, 2)

    def test_without_done(self):
        for part in range(3):
            for recipe in [(), ("slow",), ("slow", "sync slow", "fast", "free"), ("sync fast",) * 8]:
                self.assert_wrong_at(recipe, part, len(recipe))

    def test_no_tuple(self):
        for part in range(4):
            for thing in [*OTHER_KINDS, list(SAFE[part]), Recipes.safe()]:
                if not isinstance(thing, tuple):
                    self.assert_wrong_at(thing, part, 0)

    def test_the_first_of_several_invalid_recipes(self):
        wrong = [("done", "slow", "mark"), ("fast", "done", "fast"), ("slow",), ("slow", "sync slow", "done")]
        places = [2, 2, 1, 2]
        for are_wrong in itertools.product([False, True], repeat=4):
            recipes = [wrong[part] if are_wrong[part] else SAFE[part] for part in range(4)]
            if any(are_wrong):
                part = are_wrong.index(True)
                self.assert_invalid(recipes, part, places[part])
        self.assert_invalid((("done",), ("done",), None, ["slow"]), 2, 0)

    def test_random_words(self):
        source = random.Random(3)
        seen = []
        for _ in range(6000):
            recipes = tuple(any_words(source) if source.random() < 0.3 else any_recipe(source, part)
                            for part in range(4))
            places = [wrong_place(recipe, part) for part, recipe in enumerate(recipes)]
            wrong = [(part, place) for part, place in enumerate(places) if place is not None]
            if wrong:
                self.assert_invalid(recipes, *wrong[0])
            else:
                self.assertEqual(recipe_parts(Recipes(*recipes)), recipes)
            seen.append(bool(wrong))
        self.assertGreater(seen.count(True), 1000)
        self.assertGreater(seen.count(False), 1000)

    def test_recipes_by_name(self):
        recipes = Recipes(clean=SAFE[3], around=SAFE[2], back=SAFE[1], through=SAFE[0])
        self.assertEqual(recipes, Recipes.safe())

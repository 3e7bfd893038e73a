"""Setups as texts, written and read."""

import random
import unittest

from keepbefore.costs import run
from keepbefore.errors import InvalidRequests, InvalidSize
from keepbefore.notation import format_setup, parse_setup
from keepbefore.rules import Recipes, Rules
from keepbefore.stories import first_story
from tests.helpers import (
    OTHER_KINDS, SAFE, STEPS, WORDS, WRONG_REQUESTS, any_recipes, example_result, recipe_parts, rule_parts,
)
from tests.twins import any_requests, any_rules, new_pair, told

EXAMPLE = """
>>> from keepbefore.notation import parse_setup
>>> parse_setup("pair 1 1\\nrules back keep used x")
raises NotationError(row=1, word=4)
"""

RECIPE_WORDS = ["through", "back", "around", "clean"]
SAFE_TEXT = """pair 2 1
rules back keep used 1
recipe through slow sync-slow fast sync-fast done
recipe back fast sync-fast done free sync-fast
recipe around slow sync-slow free sync-fast done
recipe clean slow sync-slow mark sync-fast
read 1
write 0 999"""


def text_of(given):
    """The text of a setup, put together by own rules."""
    blocks, slots, rules, recipes, requests = given
    rows = [["pair", blocks, slots], ["rules", *rules]]
    for word, recipe in zip(RECIPE_WORDS, recipes):
        rows.append(["recipe", word, *["-".join(step.split()) for step in recipe]])
    return "\n".join(" ".join(str(word) for word in row) for row in [*rows, *requests])


def any_setup(source, most=40):
    blocks = source.randint(1, 16)
    return blocks, source.randint(1, 8), any_rules(source), any_recipes(source), any_requests(source, blocks, most)


def format_of(given):
    blocks, slots, rules, recipes, requests = given
    return format_setup(blocks, slots, Rules(*rules), Recipes(*recipes), requests)


def parts_of(setup):
    blocks, slots, rules, recipes, requests = setup
    return blocks, slots, rule_parts(rules), recipe_parts(recipes), requests


def is_number(word):
    return word in {str(number) for number in range(1000)}


def allowed_words(number, words):
    """For each word of a row a test of it, by own walking; None if there can be any number of the last one."""
    if number == 0:
        return ["pair".__eq__, is_number, is_number], False
    if number == 1:
        return ["rules".__eq__, *[some.__contains__ for some in WORDS], is_number], False
    if number < 6:
        steps = [step.replace(" ", "-") for step in STEPS[number - 2]]
        return ["recipe".__eq__, RECIPE_WORDS[number - 2].__eq__, steps.__contains__], True
    if words[0] == "write":
        return ["write".__eq__, is_number, is_number], False
    return ["read".__eq__, is_number], False


def first_fault(text):
    """Row and word of what is wrong first in a text, or None."""
    rows = text.split("\n")
    for number, row in enumerate(rows):
        words = row.split(" ")
        tests, is_long = allowed_words(number, words)
        for place, word in enumerate(words):
            if place >= len(tests) and not is_long:
                return number, place
            if not tests[min(place, len(tests) - 1)](word):
                return number, place
        if len(words) < len(tests) - is_long:
            return number, len(words)
    return None if len(rows) >= 6 else (len(rows), 0)


class NotationTestCase(unittest.TestCase):
    def assert_wrong(self, text, row, word):
        with self.subTest(text=text):
            self.assertEqual(repr(told(parse_setup, text)), repr(("NotationError", {"row": row, "word": word})))


class FormatTest(unittest.TestCase):
    def test_the_safe_recipes(self):
        requests = [("read", 1), ("write", 0, 999)]
        self.assertEqual(format_setup(2, 1, Rules("back", "keep", "used", 1), Recipes.safe(), requests), SAFE_TEXT)
        self.assertEqual(requests, [("read", 1), ("write", 0, 999)])

    def test_random_setups_and_what_is_read_of_them(self):
        source = random.Random(1)
        for _ in range(400):
            given = any_setup(source)
            text = format_of(given)
            self.assertEqual(text, text_of(given))
            setup = parse_setup(text)
            self.assertIs(type(setup), tuple)
            self.assertEqual(repr(parts_of(setup)), repr(given))
            self.assertEqual(setup[2:4], (Rules(*given[2]), Recipes(*given[3])))
            self.assertEqual(format_setup(*setup), text)

    def test_no_steps_and_no_requests(self):
        recipes = Recipes(("done",), ("done",), ("done",), ())
        text = format_setup(16, 8, Rules("around", "pass", "rare", 0), recipes, [])
        rows = ["pair 16 8", "rules around pass rare 0", "recipe through done", "recipe back done", "recipe around done"]
        self.assertEqual(text, "\n".join([*rows, "recipe clean"]))
        self.assertEqual(parse_setup(text), (16, 8, Rules("around", "pass", "rare", 0), recipes, []))

    def test_runs_pairs_and_stories_by_what_was_read(self):
        source = random.Random(2)
        for _ in range(60):
            blocks, slots, rules, recipes, requests = given = any_setup(source, 20)
            setup = parse_setup(format_of(given))
            self.assertEqual(run(*setup[:3], setup[4]), run(blocks, slots, Rules(*rules), requests))
            pairs = [new_pair(blocks, slots, rules, recipes), new_pair(*parts_of(setup)[:4])]
            results = [[getattr(pair, name)(*rest) for name, *rest in requests] for pair in pairs]
            self.assertEqual(results[0], results[1])
            self.assertEqual([pairs[0].pending, pairs[0].counts], [pairs[1].pending, pairs[1].counts])
            self.assertEqual(first_story(setup[3], 1), first_story(Recipes(*recipes), 1))


class FormatErrorsTest(unittest.TestCase):
    def assert_raises(self, expected, blocks, slots, requests):
        found = told(format_setup, blocks, slots, Rules("back", "keep", "used", 1), Recipes.safe(), requests)
        self.assertEqual(repr(found), repr(expected), (blocks, slots, requests))

    def test_sizes_come_first(self):
        for requests in ([], None, [("read", 99)]):
            for wrong in [0, 17, *OTHER_KINDS]:
                self.assert_raises(("InvalidSize", {}), wrong, 1, requests)
            for wrong in [0, 9, *OTHER_KINDS]:
                self.assert_raises(("InvalidSize", {}), 1, wrong, requests)

    def test_requests(self):
        right = [("read", 0), ("write", 1, 5), ("read", 1)]
        for place in range(4):
            for wrong in WRONG_REQUESTS:
                requests = [*right[:place], wrong, *right[place:]]
                self.assert_raises(("InvalidRequests", {"index": place}), 2, 1, requests)
        self.assert_raises(("InvalidRequests", {"index": 40}), 2, 1, [("read", 0)] * 41)
        for thing in [(("read", 0),), {}, *OTHER_KINDS]:
            if thing != []:
                self.assert_raises(("InvalidRequests", {"index": 0}), 2, 1, thing)


class ParseTest(NotationTestCase):
    def test_the_example(self):
        result, told_result = example_result(EXAMPLE)
        self.assertEqual(repr(result), repr(told_result))

    def test_missing_rows(self):
        rows = SAFE_TEXT.split("\n")
        for many in range(1, 6):
            self.assert_wrong("\n".join(rows[:many]), many, 0)
            # An empty row is one that is wrong.
            self.assert_wrong("\n".join(rows[:many]) + "\n", many, 0)
        self.assert_wrong("", 0, 0)
        self.assert_wrong("\n", 0, 0)
        self.assert_wrong("\n" + SAFE_TEXT, 0, 0)
        self.assert_wrong(SAFE_TEXT + "\n", 8, 0)
        self.assert_wrong(SAFE_TEXT.replace("\nread", "\n\nread"), 6, 0)

    def test_rows_that_end_too_early_or_too_late(self):
        rows = [row.split(" ") for row in SAFE_TEXT.split("\n")]
        for number, words in enumerate(rows):
            least = 2 if 1 < number < 6 else len(words)
            for many in range(1, least):
                self.assert_wrong(self.with_row(rows, number, words[:many]), number, many)
                self.assert_wrong(self.with_row(rows, number, [*words[:many], ""]), number, many)
            for more in ("", "5", "back", "x"):
                self.assert_wrong(self.with_row(rows, number, [*words, more]), number, len(words))
                self.assert_wrong(self.with_row(rows, number, [*words, more, more]), number, len(words))
            for place in range(len(words) + 1):
                self.assert_wrong(self.with_row(rows, number, [*words[:place], "", *words[place:]]), number, place)

    def with_row(self, rows, number, words):
        return "\n".join(" ".join(row) for row in [*rows[:number], words, *rows[number + 1:]])

    def test_numbers(self):
        rows = [row.split(" ") for row in SAFE_TEXT.split("\n")]
        places = [(0, 1), (0, 2), (1, 4), (6, 1), (7, 1), (7, 2)]
        wrong_numbers = ["00", "01", "007", "1000", "0000", "-1", "+1", "1.0", "1_0", "a", "0x1", "True", "None", "one",
                         "\u00b2", "\u0663", "\u00b9", "\u0661\u0660", "1\t", "1\r"]
        for number, place in places:
            for wrong in wrong_numbers:
                words = [*rows[number][:place], wrong, *rows[number][place + 1:]]
                self.assert_wrong(self.with_row(rows, number, words), number, place)
            for right in ("0", "1", "9", "10", "99", "100", "999"):
                words = [*rows[number][:place], right, *rows[number][place + 1:]]
                self.assertNotEqual(told(parse_setup, self.with_row(rows, number, words))[0], "NotationError")

    def test_texts_with_a_word_changed_put_in_too_many_or_missing(self):
        source = random.Random(3)
        words = ["pair", "rules", "recipe", "read", "write", "back", "through", "around", "clean", "slow", "sync-slow",
                 "sync", "sync slow", "mark", "free", "done", "keep", "pass", "rare", "0", "1", "12", "999", "007", "1000",
                 "", "x", "Read"]
        wrong = 0
        for _ in range(3000):
            rows = [row.split(" ") for row in text_of(any_setup(source, 4)).split("\n")]
            for _ in range(source.choice([1, 1, 2])):
                self.change(source, rows, words)
            text = "\n".join(" ".join(row) for row in rows)
            fault = first_fault(text)
            if fault is None:
                self.assertNotEqual(told(parse_setup, text)[0], "NotationError", text)
            else:
                wrong += 1
                self.assert_wrong(text, *fault)
        self.assertGreater(wrong, 2000)

    def change(self, source, rows, words):
        number = source.randrange(len(rows))
        row, kind = rows[number], source.choice(["changed", "put in", "missing", "too many", "row missing", "row twice"])
        place = source.randint(0, len(row) - 1)
        if kind == "changed":
            row[place] = source.choice(words)
        elif kind == "put in":
            row.insert(place, source.choice(words))
        elif kind == "missing" and len(row) > 1:
            del row[place]
        elif kind == "too many":
            row.append(source.choice(words))
        elif kind == "row missing" and len(rows) > 1:
            del rows[number]
        elif kind == "row twice":
            rows.insert(number, list(row))

    def test_words_of_other_parts_and_recipes(self):
        rows = [row.split(" ") for row in SAFE_TEXT.split("\n")]
        for part, word in ((1, "pass"), (2, "used"), (3, "back"), (1, "Back"), (2, "kept"), (3, "least")):
            self.assert_wrong(self.with_row(rows, 1, [*rows[1][:part], word, *rows[1][part + 1:]]), 1, part)
        for number in range(2, 6):
            for word in ["mark"] if number < 5 else ["fast", "free", "done"]:
                self.assert_wrong(self.with_row(rows, number, [*rows[number], word]), number, len(rows[number]))
            self.assert_wrong(self.with_row(rows, number, [*rows[number], "sync"]), number, len(rows[number]))
            self.assert_wrong(self.with_row(rows, number, rows[(number + 1) % 4 + 2]), number, 1)

    def test_no_text(self):
        for thing in [b"pair 1 1", {}, *OTHER_KINDS]:
            if not isinstance(thing, str):
                self.assert_wrong(thing, 0, 0)


class OrderTest(NotationTestCase):
    """Sizes, rules, recipes and requests, in this order, when all words are right."""

    def assert_raises(self, expected, sizes="2 1", bound="1", steps="slow done", more="", requests=()):
        text = SAFE_TEXT.replace("pair 2 1", f"pair {sizes}").replace("used 1", f"used {bound}")
        text = text.replace("recipe through slow sync-slow fast sync-fast done", f"recipe through {steps}")
        text = text.replace("mark sync-fast", f"mark sync-fast{more}")
        self.assertEqual(repr(told(parse_setup, "\n".join([text, *requests]))), repr(expected))

    def test_each_by_itself(self):
        self.assert_raises(("InvalidSize", {}), sizes="0 1")
        self.assert_raises(("InvalidSize", {}), sizes="17 1")
        self.assert_raises(("InvalidSize", {}), sizes="2 0")
        self.assert_raises(("InvalidSize", {}), sizes="2 9")
        for bound in ("9", "10", "999"):
            self.assert_raises(("InvalidRules", {"part": 3}), bound=bound)
        self.assert_raises(("InvalidRecipes", {"part": 0, "place": 1}), steps="slow")
        self.assert_raises(("InvalidRecipes", {"part": 0, "place": 2}), steps="slow sync-slow slow done")
        self.assert_raises(("InvalidRecipes", {"part": 0, "place": 8}), steps=" ".join(["sync-slow"] * 8 + ["done"]))
        self.assert_raises(("InvalidRecipes", {"part": 3, "place": 4}), more=" mark")
        self.assert_raises(("InvalidRecipes", {"part": 3, "place": 8}), more=" sync-fast" * 90)
        self.assert_raises(("InvalidRequests", {"index": 2}), requests=["read 2", "read 3"])
        self.assert_raises(("InvalidRequests", {"index": 3}), requests=["write 1 0", "write 16 0"])
        self.assert_raises(("InvalidRequests", {"index": 40}), requests=["read 0"] * 39)
        self.assert_raises(("InvalidRequests", {"index": 0}), sizes="1 1")

    def test_several_at_once(self):
        wrong = {"requests": ["read 2"], "steps": "slow", "bound": "9", "sizes": "1 0"}
        self.assert_raises(("InvalidRecipes", {"part": 0, "place": 1}), requests=["read 2"], steps="slow", more=" mark")
        self.assert_raises(("InvalidRules", {"part": 3}), requests=["read 2"], steps="slow", bound="9")
        self.assert_raises(("InvalidSize", {}), **wrong)
        self.assert_raises(("InvalidSize", {}), sizes="99 1", bound="9")

    def test_words_come_ahead_of_all(self):
        wrong = {"sizes": "0 0", "bound": "9", "steps": "slow"}
        self.assert_raises(("NotationError", {"row": 8, "word": 1}), **wrong, requests=["read x"])

    def test_forty_requests(self):
        text = SAFE_TEXT + "\nread 0" * 38
        self.assertEqual(parse_setup(text)[4], [("read", 1), ("write", 0, 999)] + [("read", 0)] * 38)

    def test_all_kinds_of_errors_on_random_texts(self):
        source = random.Random(4)
        kinds = set()
        for _ in range(600):
            blocks, slots, rules, recipes, requests = any_setup(source, 5)
            blocks = source.choice([blocks, blocks, blocks, 0, 17])
            slots = source.choice([slots, slots, slots, 9])
            rules = (*rules[:3], source.choice([rules[3], 9]))
            part = source.randrange(4)
            steps = (*recipes[part], *source.choice([(), (), ("slow",), ("sync fast",)]))
            recipes = [*recipes[:part], steps, *recipes[part + 1:]]
            requests = requests + source.choice([[], [("read", source.randint(0, 20))]])
            expected = self.by_making_each(blocks, slots, rules, recipes, requests)
            found = told(parse_setup, text_of((blocks, slots, rules, recipes, requests)))
            kinds.add(expected[0])
            if expected[0] == "value":
                self.assertEqual(parts_of(found[1]), (blocks, slots, rules, tuple(recipes), requests))
            else:
                self.assertEqual(repr(found), repr(expected))
        self.assertEqual(kinds, {"value", "InvalidSize", "InvalidRules", "InvalidRecipes", "InvalidRequests"})

    def by_making_each(self, blocks, slots, rules, recipes, requests):
        if blocks not in range(1, 17) or slots not in range(1, 9):
            return (InvalidSize.__name__, {})
        for make, arguments in ((Rules, rules), (Recipes, recipes)):
            kind, value = told(make, *arguments)
            if kind != "value":
                return kind, value
        for index, request in enumerate(requests):
            if request[1] >= blocks:
                return (InvalidRequests.__name__, {"index": index})
        return ("value", None)


class WholeTest(unittest.TestCase):
    def test_the_list_of_requests_is_new(self):
        first = parse_setup(SAFE_TEXT)
        first[4].clear()
        self.assertEqual(parse_setup(SAFE_TEXT)[4], [("read", 1), ("write", 0, 999)])

    def test_the_safe_text(self):
        setup = parse_setup(SAFE_TEXT)
        self.assertEqual(parts_of(setup), (2, 1, ("back", "keep", "used", 1), SAFE, [("read", 1), ("write", 0, 999)]))

    def test_long_texts_end(self):
        self.assertEqual(told(parse_setup, SAFE_TEXT + "\nread 0" * 100000), ("InvalidRequests", {"index": 40}))
        long = SAFE_TEXT.replace("mark", "sync-slow " * 100000 + "mark")
        self.assertEqual(told(parse_setup, long), ("InvalidRecipes", {"part": 3, "place": 8}))


if __name__ == "__main__":
    unittest.main()

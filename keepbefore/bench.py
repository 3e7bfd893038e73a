"""A workbench, on which rules and recipes are changed, and the changes taken back and repeated."""

from keepbefore.checks import is_number_from
from keepbefore.errors import InvalidCount, InvalidName, InvalidOperation, InvalidWord, PairError, UnknownName
from keepbefore.rules import BOUND_PART, RECIPE_WORDS, Recipes, Rules
from keepbefore.stories import lean

# The word of each kind of operation, and how long such a tuple is.
OPERATION_FORMS = (("part", 3), ("recipe", 3), ("lean", 2), ("undo", 1), ("redo", 1))
TASKS_LEANED_BY = 1
LETTERS = "abcdefghijklmnopqrstuvwxyz"
MOST_LETTERS = 8


class Bench:
    """Holds rules and recipes, and all of them that were there before or were taken back."""

    def __init__(self, rules, recipes):
        # Each stage has the operation that led to it (the first has none), the rules and the recipes.
        self._stages = [(None, rules, recipes)]
        self._now = 0
        self._saved = {}

    @classmethod
    def replay(cls, rules, recipes, operations):
        bench = cls(rules, recipes)
        bench.apply(operations)
        return bench

    @property
    def rules(self):
        return self._stages[self._now][1]

    @property
    def recipes(self):
        return self._stages[self._now][2]

    @property
    def operations(self):
        return [stage[0] for stage in self._stages[1:self._now + 1]]

    @property
    def names(self):
        return sorted(self._saved)

    # Operations.

    def set_part(self, part, value):
        if not is_number_from(part, 0, BOUND_PART):
            raise InvalidCount(f"a part of the rules has a number from 0 to {BOUND_PART}")
        rules = self.rules
        parts = [rules.writing, rules.reading, rules.choice, rules.bound]
        parts[part] = value
        self._go_on(("part", part, value), Rules(*parts), self.recipes)

    def set_recipe(self, word, recipe):
        part = _part_of(word)
        recipes = self.recipes
        parts = [recipes.through, recipes.back, recipes.around, recipes.clean]
        parts[part] = recipe
        self._go_on(("recipe", word, recipe), self.rules, Recipes(*parts))

    def lean(self, word):
        self._go_on(("lean", word), self.rules, lean(self.recipes, word, TASKS_LEANED_BY))

    def undo(self):
        if self._now == 0:
            return False
        self._now -= 1
        return True

    def redo(self):
        if self._now == len(self._stages) - 1:
            return False
        self._now += 1
        return True

    def apply(self, operations):
        _check_operations(operations)
        stages, now = self._stages, self._now
        try:
            return [self._execute(operation) for operation in operations]
        except PairError:
            self._stages, self._now = stages, now
            raise

    # Names.

    def save(self, name):
        if not _is_name(name):
            raise InvalidName(f"a name has one to {MOST_LETTERS} letters a to z")
        self._saved[name] = (self._stages, self._now)

    def restore(self, name):
        if not _is_name(name) or name not in self._saved:
            raise UnknownName("nothing is stored under this name")
        self._stages, self._now = self._saved[name]

    def _go_on(self, operation, rules, recipes):
        """Comes to a new stage; those that were taken back cannot be repeated any more."""
        # A new list, as the old one may be stored.
        self._stages = [*self._stages[:self._now + 1], (operation, rules, recipes)]
        self._now += 1

    def _execute(self, operation):
        """The result of a valid operation."""
        word = operation[0]
        if word == "undo":
            return self.undo()
        if word == "redo":
            return self.redo()
        if word == "part":
            self.set_part(operation[1], operation[2])
        elif word == "recipe":
            self.set_recipe(operation[1], operation[2])
        else:
            self.lean(operation[1])
        return None


def _part_of(word):
    if word not in RECIPE_WORDS:
        raise InvalidWord("not the word of a recipe")
    return RECIPE_WORDS.index(word)


def _check_operations(operations):
    """Raises InvalidOperation unless this is a list of tuples that have the forms of operations."""
    if not isinstance(operations, list):
        raise InvalidOperation(0)
    for place, operation in enumerate(operations):
        if not isinstance(operation, tuple) or not operation:
            raise InvalidOperation(place)
        if (operation[0], len(operation)) not in OPERATION_FORMS:
            raise InvalidOperation(place)


def _is_name(name):
    if not isinstance(name, str) or not 1 <= len(name) <= MOST_LETTERS:
        return False
    return all([letter in LETTERS for letter in name])

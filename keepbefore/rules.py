"""The rules of a pair, and the recipes for the order of its steps."""

from keepbefore.checks import is_number_from
from keepbefore.errors import InvalidRecipes, InvalidRules

# The words of each part of the rules but the bound, which is a number.
RULE_WORDS = (("through", "back", "around"), ("keep", "pass"), ("used", "came", "rare"))
BOUND_PART = 3
MOST_BOUND = 8

# The words of the recipes, in the order of their parts.
RECIPE_WORDS = ("through", "back", "around", "clean")
WRITE_STEPS = ("slow", "sync slow", "fast", "sync fast", "free", "done")
CLEAN_STEPS = ("slow", "sync slow", "mark", "sync fast")
SYNC_STEPS = ("sync slow", "sync fast")
MOST_STEPS = 8


class Rules:
    """How a pair writes, reads, chooses slots, and how many dirty records it may have."""

    def __init__(self, writing, reading, choice, bound):
        words = (writing, reading, choice)
        for part, allowed in enumerate(RULE_WORDS):
            if words[part] not in allowed:
                raise InvalidRules(part)
        if not is_number_from(bound, 0, MOST_BOUND):
            raise InvalidRules(BOUND_PART)
        self._writing = writing
        self._reading = reading
        self._choice = choice
        self._bound = bound

    def __eq__(self, other):
        return (isinstance(other, Rules) and self._writing == other._writing and self._reading == other._reading
                and self._choice == other._choice and self._bound == other._bound)

    @property
    def writing(self):
        return self._writing

    @property
    def reading(self):
        return self._reading

    @property
    def choice(self):
        return self._choice

    @property
    def bound(self):
        return self._bound


class Recipes:
    """The steps of a write by each of the three rules for writing, and of cleaning."""

    def __init__(self, through, back, around, clean):
        allowed = (WRITE_STEPS, WRITE_STEPS, WRITE_STEPS, CLEAN_STEPS)
        for part, recipe in enumerate((through, back, around, clean)):
            place = _invalid_place(recipe, allowed[part])
            if place is not None:
                raise InvalidRecipes(part, place)
        self._through = through
        self._back = back
        self._around = around
        self._clean = clean

    def __eq__(self, other):
        return (isinstance(other, Recipes) and self._through == other._through and self._back == other._back
                and self._around == other._around and self._clean == other._clean)

    @classmethod
    def safe(cls):
        return cls(
            ("slow", "sync slow", "fast", "sync fast", "done"),
            ("fast", "sync fast", "done", "free", "sync fast"),
            ("slow", "sync slow", "free", "sync fast", "done"),
            ("slow", "sync slow", "mark", "sync fast"),
        )

    @property
    def through(self):
        return self._through

    @property
    def back(self):
        return self._back

    @property
    def around(self):
        return self._around

    @property
    def clean(self):
        return self._clean


def _invalid_place(recipe, allowed):
    """Where a recipe of the allowed steps is invalid first, or None."""
    if not isinstance(recipe, tuple):
        return 0
    for place, word in enumerate(recipe):
        if place == MOST_STEPS or word not in allowed:
            return place
        if word not in SYNC_STEPS and word in recipe[:place]:
            return place
    if "done" in allowed and "done" not in recipe:
        return len(recipe)
    return None

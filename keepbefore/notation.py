"""Setups as texts: the sizes of a pair, its rules and recipes, and requests."""

from keepbefore.checks import check_blocks, check_slots
from keepbefore.errors import NotationError
from keepbefore.requests import check_requests
from keepbefore.rules import CLEAN_STEPS, RECIPE_WORDS, RULE_WORDS, WRITE_STEPS, Recipes, Rules

# Where the rows of each kind begin.
RULES_ROW = 1
RECIPES_ROW = 2
REQUESTS_ROW = 6

DIGITS = "0123456789"
MOST_DIGITS = 3
# What stands instead of the allowed words where a number is expected.
NUMBER = "number"


def format_setup(blocks, slots, rules, recipes, requests):
    """The text of a setup."""
    check_blocks(blocks)
    check_slots(slots)
    check_requests(requests, blocks)
    rows = [
        f"pair {blocks} {slots}",
        f"rules {rules.writing} {rules.reading} {rules.choice} {rules.bound}",
    ]
    steps = (recipes.through, recipes.back, recipes.around, recipes.clean)
    for word, recipe in zip(RECIPE_WORDS, steps):
        rows.append(" ".join(["recipe", word, *[_as_word(step) for step in recipe]]))
    for request in requests:
        rows.append(" ".join([str(part) for part in request]))
    return "\n".join(rows)


def parse_setup(text):
    """The numbers of blocks and slots, the rules, the recipes and the requests of a text."""
    rows = _checked_rows(text)
    blocks, slots = int(rows[0][1]), int(rows[0][2])
    check_blocks(blocks)
    check_slots(slots)
    _, writing, reading, choice, bound = rows[RULES_ROW]
    rules = Rules(writing, reading, choice, int(bound))
    steps = [_read_steps(row) for row in rows[RECIPES_ROW:REQUESTS_ROW]]
    recipes = Recipes(*steps)
    requests = [_read_request(row) for row in rows[REQUESTS_ROW:]]
    check_requests(requests, blocks)
    return (blocks, slots, rules, recipes, requests)


def _as_word(step):
    """A step as it is written."""
    return step.replace(" ", "-")


def _read_steps(row):
    return tuple([word.replace("-", " ") for word in row[2:]])


def _read_request(row):
    return (row[0], *[int(word) for word in row[1:]])


def _checked_rows(text):
    """The rows of a text as lists of their words; raises NotationError unless all have the form of their row."""
    if not isinstance(text, str):
        raise NotationError(0, 0)
    rows = [row.split(" ") for row in text.split("\n")]
    for number, words in enumerate(rows):
        _check_row(number, words)
    if len(rows) < REQUESTS_ROW:
        raise NotationError(len(rows), 0)
    return rows


def _check_row(number, words):
    """Raises NotationError unless these are the words of the row with this number."""
    form = _form_of_row(number, words)
    for place, allowed in enumerate(form):
        if place == len(words) or not _can_be(words[place], allowed):
            raise NotationError(number, place)
    if len(words) > len(form):
        raise NotationError(number, len(form))


def _form_of_row(number, words):
    """What each word of a row can be: a list of tuples of allowed words, and of NUMBER."""
    if number == 0:
        return [("pair",), NUMBER, NUMBER]
    if number == RULES_ROW:
        return [("rules",), *RULE_WORDS, NUMBER]
    if number < REQUESTS_ROW:
        return _form_of_recipe(RECIPE_WORDS[number - RECIPES_ROW], len(words))
    if words[0] == "write":
        return [("write",), NUMBER, NUMBER]
    return [("read", "write"), NUMBER]


def _form_of_recipe(word, many):
    """What so many words of a recipe's row can be: all behind the first two are steps, however many they are."""
    steps = CLEAN_STEPS if word == "clean" else WRITE_STEPS
    allowed = tuple([_as_word(step) for step in steps])
    return [("recipe",), (word,)] + [allowed] * (many - 2)


def _can_be(word, allowed):
    if allowed == NUMBER:
        return _is_number_word(word)
    return word in allowed


def _is_number_word(word):
    if not 1 <= len(word) <= MOST_DIGITS or not all([sign in DIGITS for sign in word]):
        return False
    return word == "0" or word[0] != "0"

"""What several tests need: examples as the document writes them, and things of other kinds."""

import ast
import itertools
import re

from keepbefore import errors

# The words of each part of the rules but the bound.
WORDS = [["through", "back", "around"], ["keep", "pass"], ["used", "came", "rare"]]
TRIPLES = sorted(itertools.product(*WORDS))

WRITE_STEPS = ["slow", "sync slow", "fast", "sync fast", "free", "done"]
CLEAN_STEPS = ["slow", "sync slow", "mark", "sync fast"]
SYNCS = ["sync slow", "sync fast"]
STEPS = [WRITE_STEPS, WRITE_STEPS, WRITE_STEPS, CLEAN_STEPS]

SAFE = (
    ("slow", "sync slow", "fast", "sync fast", "done"),
    ("fast", "sync fast", "done", "free", "sync fast"),
    ("slow", "sync slow", "free", "sync fast", "done"),
    ("slow", "sync slow", "mark", "sync fast"),
)

# One of each kind that an argument with an error may be, and numbers far off.
OTHER_KINDS = [
    None, True, False, "", "0", "1", "slow", "back", (), (0,), (1, 2), (None,), ("done",),
    [], [0], [1, 2], ["done"], [None], -1, -10 ** 30, 10 ** 30,
]

# What is no request of a pair of two blocks.
WRONG_REQUESTS = [
    ("read",), ("read", 2), ("read", -1), ("read", True), ("read", None), ("read", "0"), ("read", (0,)), ("read", 0, 5),
    ("write", 0), ("write", 0, 1000), ("write", 0, -1), ("write", 0, True), ("write", 0, None), ("write", 0, [5]),
    ("write", 2, 5), ("write", False, 5), ("write", 0, 5, 5), ("forget", 0), ("Read", 0), ("", 0), (0, 0), (None, 0),
    ("forget", 0, 5), ("Write", 0, 5), ("", 0, 5), (None, 0, 5), (("read", 0),), ["read", 0], ["write", 0, 5], "read",
    {}, *OTHER_KINDS,
]


def example_result(text):
    """What an example of the document gives, and what it says: two values or two errors."""
    code = [line[4:] for line in text.splitlines() if line.startswith(">>> ")]
    told = [line for line in text.splitlines() if line and not line.startswith(">>> ")]
    [told] = told
    names = {}
    for line in code[:-1]:
        exec(line, names)
    raised = re.fullmatch(r"raises (\w+)\((.*)\)", told)
    if raised is None:
        return ("value", eval(code[-1], names)), ("value", ast.literal_eval(told))
    words = dict(part.split("=") for part in raised.group(2).split(", ") if part)
    attributes = {name: ast.literal_eval(word) for name, word in words.items()}
    try:
        result = ("value", eval(code[-1], names))
    except errors.PairError as error:
        result = (error.__class__.__name__, vars(error))
    return result, (raised.group(1), attributes)


def kept_parts(many):
    """All tuples of ascending numbers below `many`."""
    return [tuple(at for at in range(many) if bits >> at & 1) for bits in range(1 << many)]


def rule_parts(rules):
    return (rules.writing, rules.reading, rules.choice, rules.bound)


def recipe_parts(recipes):
    return (recipes.through, recipes.back, recipes.around, recipes.clean)


def any_recipe(source, part):
    """A valid recipe: each other word at most once, and syncs anywhere between."""
    others = [word for word in STEPS[part] if word not in SYNCS and word != "done" and source.random() < 0.6]
    words = others + ["done"] * (part < 3)
    words += [source.choice(SYNCS) for _ in range(source.randint(0, 8 - len(words)))]
    source.shuffle(words)
    return tuple(words)


def any_recipes(source):
    return tuple(any_recipe(source, part) for part in range(4))

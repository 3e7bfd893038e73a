"""All errors of the package, each straight under `PairError`."""


class PairError(ValueError):
    """What all errors of this package are."""


class InvalidSize(PairError):
    """A number of cells, blocks or slots that is not allowed."""


class InvalidCell(PairError):
    """Not the number of a cell of the disk."""


class InvalidKept(PairError):
    """Not a tuple of ascending numbers of pending writes."""


class InvalidRules(PairError):
    """Rules of which `part` is the number of the first invalid part."""

    def __init__(self, part):
        super().__init__(f"part {part} of the rules is invalid")
        self.part = part


class InvalidRecipes(PairError):
    """Recipes of which the recipe `part` is invalid from the word `place` on."""

    def __init__(self, part, place):
        super().__init__(f"recipe {part} is invalid at word {place}")
        self.part = part
        self.place = place


class InvalidBlock(PairError):
    """Not the number of a block of the pair."""


class InvalidValue(PairError):
    """Not a value that a block can have."""


class InvalidCount(PairError):
    """A number of something that is not allowed."""


class InvalidSlot(PairError):
    """Not the number of a slot of the pair."""


class InvalidWord(PairError):
    """Not the word of a recipe."""


class InvalidStory(PairError):
    """Not a story, or not one that fits the recipes."""


class InvalidRequests(PairError):
    """Requests of which `index` is the number of the first invalid one."""

    def __init__(self, index):
        super().__init__(f"request {index} is invalid")
        self.index = index


class InvalidPrices(PairError):
    """Prices of which `index` is the number of the first invalid one."""

    def __init__(self, index):
        super().__init__(f"price {index} is invalid")
        self.index = index


class InvalidPlan(PairError):
    """A plan of which `index` is the number of the first invalid entry."""

    def __init__(self, index):
        super().__init__(f"entry {index} of the plan is invalid")
        self.index = index


class PowerFailed(PairError):
    """The power failed in a call; `is_done` tells of a write that was done already."""

    def __init__(self, is_done):
        super().__init__(f"the power failed, with a write done already: {is_done}")
        self.is_done = is_done


class PowerOff(PairError):
    """The pair is off."""


class PowerOn(PairError):
    """The pair is on."""


class NoFastDisk(PairError):
    """The pair has no fast disk."""


class HasFastDisk(PairError):
    """The pair has a fast disk already."""


class Unsettled(PairError):
    """A pair of which no image can be made as it is."""


class Contradiction(PairError):
    """An observation that no candidate explains."""


class InvalidOperation(PairError):
    """Operations of which `place` is the number of the first that is none."""

    def __init__(self, place):
        super().__init__(f"operation {place} is invalid")
        self.place = place


class InvalidName(PairError):
    """Not a name under which something can be stored."""


class UnknownName(PairError):
    """A name under which nothing is stored."""


class NotationError(PairError):
    """A text that is wrong at the word `word` of the row `row`."""

    def __init__(self, row, word):
        super().__init__(f"row {row} is wrong at word {word}")
        self.row = row
        self.word = word


class DecodeError(PairError):
    """An image of which `offset` is the number of the first invalid number."""

    def __init__(self, offset):
        super().__init__(f"number {offset} of the image is invalid")
        self.offset = offset

"""Images of pairs: lists of numbers from 0 to 255, and pairs that are loaded from them."""

from keepbefore.checks import MOST_BLOCKS, MOST_SLOTS, MOST_VALUE, is_number_from
from keepbefore.errors import DecodeError, InvalidCount, NoFastDisk, PowerOff, Unsettled
from keepbefore.pairs import Pair
from keepbefore.records import TURN
from keepbefore.rules import MOST_BOUND, RULE_WORDS, Rules

FIRST_NUMBER = 75
MOST_NUMBER = 255
# How many different numbers there are, by which greater ones are divided.
BASE = 256
MOST_TURN = 65535

# What the number ahead of a slot tells of it.
NO_RECORD = 0
CLEAN_RECORD = 1
DIRTY_RECORD = 2

FIRST_CHECKSUM = 3
CHECKSUM_FACTOR = 5
CHECKSUM_MODULUS = 239


def image(pair):
    """The numbers that tell of a pair what its disks have, and its rules."""
    slow, fast = _settled_contents(pair)
    rules = pair.rules
    words = (rules.writing, rules.reading, rules.choice)
    numbers = [FIRST_NUMBER, len(slow), len(fast)]
    numbers.extend([allowed.index(word) for word, allowed in zip(words, RULE_WORDS)])
    numbers.append(rules.bound)
    for value in slow:
        numbers.extend(divmod(value, BASE))
    for record in fast:
        numbers.extend(_numbers_of_slot(record))
    numbers.append(_checksum(numbers))
    return numbers


def load(numbers):
    """The pair that an image tells of, as it is behind a restart."""
    if not isinstance(numbers, list) or not all([is_number_from(number, 0, MOST_NUMBER) for number in numbers]):
        raise InvalidCount(f"not a list of numbers from 0 to {MOST_NUMBER}")
    reader = NumberReader(numbers)
    reader.take(FIRST_NUMBER, FIRST_NUMBER)
    blocks = reader.take(1, MOST_BLOCKS)
    slots = reader.take(1, MOST_SLOTS)
    writing, reading, choice = [allowed[reader.take(0, len(allowed) - 1)] for allowed in RULE_WORDS]
    rules = Rules(writing, reading, choice, reader.take(0, MOST_BOUND))
    slow = [reader.take_two(MOST_VALUE) for _ in range(blocks)]
    fast = [_take_slot(reader, blocks) for _ in range(slots)]
    reader.take_end()
    pair = Pair(blocks, slots, rules)
    pair.cut()
    pair.put_in_disks(slow, fast)
    pair.restart((), ())
    return pair


class NumberReader:
    """Reads an image from left to right; DecodeError tells where it cannot go on."""

    def __init__(self, numbers):
        self._numbers = list(numbers)
        self._offset = 0

    def take(self, least, most):
        """The next number, which has to be one of these."""
        if self._offset == len(self._numbers) or not least <= self._numbers[self._offset] <= most:
            raise DecodeError(self._offset)
        self._offset += 1
        return self._numbers[self._offset - 1]

    def take_two(self, most):
        """What the next two numbers tell, a quotient and a rest, which has to be at most that."""
        quotient = self.take(0, most // BASE)
        return quotient * BASE + self.take(0, min(most - quotient * BASE, MOST_NUMBER))

    def take_end(self):
        checksum = _checksum(self._numbers[:self._offset])
        self.take(checksum, checksum)
        if self._offset < len(self._numbers):
            raise DecodeError(self._offset)


def _settled_contents(pair):
    """What both disks have, of a pair of which an image can be made."""
    if not pair.is_on:
        raise PowerOff("the pair is off")
    slow, fast = pair.lasting
    if not fast:
        raise NoFastDisk("there is no fast disk of which an image could be made")
    slow_pending, fast_pending = pair.pending
    if slow_pending or fast_pending:
        raise Unsettled("there are pending writes")
    if any([record is not None and record[TURN] > MOST_TURN for record in fast]):
        raise Unsettled("a turn is too great")
    return (slow, fast)


def _numbers_of_slot(record):
    if record is None:
        return [NO_RECORD]
    block, value, turn, is_dirty = record
    kind = DIRTY_RECORD if is_dirty else CLEAN_RECORD
    return [kind, block, *divmod(value, BASE), *divmod(turn, BASE)]


def _take_slot(reader, blocks):
    """What the next numbers tell of a slot."""
    kind = reader.take(NO_RECORD, DIRTY_RECORD)
    if kind == NO_RECORD:
        return None
    block = reader.take(0, blocks - 1)
    value = reader.take_two(MOST_VALUE)
    turn = reader.take_two(MOST_TURN)
    return (block, value, turn, kind == DIRTY_RECORD)


def _checksum(numbers):
    checksum = FIRST_CHECKSUM
    for number in numbers:
        checksum = (CHECKSUM_FACTOR * checksum + number) % CHECKSUM_MODULUS
    return checksum

"""Requests that are carried out again and again, in rounds that repeat."""

from keepbefore.checks import is_number_from
from keepbefore.errors import InvalidCount, InvalidRequests, InvalidSlot
from keepbefore.pairs import Pair
from keepbefore.requests import check_requests, which_hit

MOST_REPEATED = 20
MOST_ROUNDS = 1_000_000_000_000_000_000

# Where a tally has the hits, the first of the six counts, and the writes to the first slot.
HITS_PLACE = 0
COUNTS_PLACE = 1
SLOTS_PLACE = 7


class TalliedPair(Pair):
    """A pair that counts the writes to each slot, too."""

    def __init__(self, blocks, slots, rules):
        super().__init__(blocks, slots, rules)
        self._slot_tallies = [0] * slots

    def tally(self):
        """The hits, the six counts and the writes to each slot so far."""
        return (self.hits, *self.counts, *self._slot_tallies)

    def memory_shape(self):
        return self._memory.shape()

    def _write_fast(self, slot, content):
        super()._write_fast(slot, content)
        self._slot_tallies[slot] += 1


class Repeated:
    """One pair, new at first, that carries out the same requests in each round."""

    def __init__(self, blocks, slots, rules, requests):
        pair = TalliedPair(blocks, slots, rules)
        check_requests(requests, blocks, MOST_REPEATED)
        if not requests:
            raise InvalidRequests(0)
        self._slots = slots
        # For each round that was walked which requests hit, and for each number of rounds what was tallied by then.
        self._are_hits = []
        self._tallies = [pair.tally()]
        first = self._walk(pair, requests)
        self._settled = _shortest(self._walked_rounds(), first)

    @property
    def settled(self):
        return self._settled

    def counts_after(self, rounds):
        _check_number(rounds)
        return tuple(self._tally_after(rounds)[COUNTS_PLACE:SLOTS_PLACE])

    def hits_after(self, rounds):
        _check_number(rounds)
        return self._tally_after(rounds)[HITS_PLACE]

    def slot_writes(self, slot, rounds):
        if not is_number_from(slot, 0, self._slots - 1):
            raise InvalidSlot("not the number of a slot of the pair")
        _check_number(rounds)
        return self._tally_after(rounds)[SLOTS_PLACE + slot]

    def is_hit(self, number):
        _check_number(number)
        rounds, place = divmod(number, len(self._are_hits[0]))
        first, length = self._settled
        if rounds > first:
            rounds = first + (rounds - first) % length
        return self._are_hits[rounds][place]

    def worn_after(self, limit):
        _check_number(limit)
        first, length = self._settled
        # Each slot that is written at all while the rounds repeat is written once in a length at least.
        low, high = 0, first + (limit + 1) * length
        if self._most_writes(high) <= limit:
            return None
        while high - low > 1:
            middle = (low + high) // 2
            if self._most_writes(middle) > limit:
                high = middle
            else:
                low = middle
        return high

    def _walk(self, pair, requests):
        """Walks until what the pair knows was there before, and returns ahead of which round it was."""
        first_rounds = {}
        shape = pair.memory_shape()
        while shape not in first_rounds:
            first_rounds[shape] = len(self._are_hits)
            self._are_hits.append(which_hit(pair, requests))
            self._tallies.append(pair.tally())
            shape = pair.memory_shape()
        return first_rounds[shape]

    def _walked_rounds(self):
        """What has to be the same in rounds that repeat."""
        return [
            (are_hits, _differences(self._tallies[number + 1], self._tallies[number]))
            for number, are_hits in enumerate(self._are_hits)
        ]

    def _tally_after(self, rounds):
        first, length = self._settled
        if rounds <= first:
            return self._tallies[rounds]
        times, rest = divmod(rounds - first, length)
        in_a_length = _differences(self._tallies[first + length], self._tallies[first])
        return [start + times * more for start, more in zip(self._tallies[first + rest], in_a_length)]

    def _most_writes(self, rounds):
        return max(self._tally_after(rounds)[SLOTS_PLACE:])


def _check_number(number):
    if not is_number_from(number, 0, MOST_ROUNDS):
        raise InvalidCount(f"a number of rounds or writes, or of a request, is from 0 to {MOST_ROUNDS}")


def _differences(later, earlier):
    return [after - before for after, before in zip(later, earlier)]


def _shortest(rounds, first):
    """The least first round and length, from a first round on behind which these rounds come again."""
    cycle = rounds[first:]
    least = 1
    while cycle[least:] + cycle[:least] != cycle:
        least += 1
    while first > 0 and rounds[first - 1] == rounds[first - 1 + least]:
        first -= 1
    return (first, least)

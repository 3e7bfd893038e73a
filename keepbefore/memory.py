"""What a pair knows of the slots of its fast disk."""

from keepbefore.records import BLOCK, IS_DIRTY, TURN, cleaned

MOST_USES = 9


class KnownSlot:
    """The record of a slot, when its block came there and was used, and by how many requests."""

    def __init__(self, record, request):
        self.record = record
        self.came = request
        self.used = request
        self.uses = 1


class Memory:
    """The known slots; all others are unknown, whatever is in them."""

    def __init__(self, slots):
        self._slots = slots
        self._known = {}

    def records(self):
        return {slot: self._known[slot].record for slot in sorted(self._known)}

    def slot_of(self, block):
        """The slot in which a block is known, or None."""
        for slot, known in self._known.items():
            if known.record[BLOCK] == block:
                return slot
        return None

    def record_in(self, slot):
        return self._known[slot].record

    def use(self, slot, request):
        known = self._known[slot]
        known.used = request
        known.uses = min(known.uses + 1, MOST_USES)

    def learn(self, slot, record, request):
        """Knows a record that the request wrote into a slot."""
        known = self._known.get(slot)
        if known is not None and known.record[BLOCK] == record[BLOCK]:
            known.record = record
        else:
            self._known[slot] = KnownSlot(record, request)

    def learn_clean(self, slot):
        known = self._known[slot]
        known.record = cleaned(known.record)

    def forget(self, slot):
        if slot in self._known:
            del self._known[slot]

    def dirty_slots(self):
        """The slots with dirty records, the one with the least turn first."""
        records = self.records()
        turns = [(records[slot][TURN], slot) for slot in records if records[slot][IS_DIRTY]]
        return [slot for _, slot in sorted(turns)]

    def shape(self):
        """All that decides what comes: of turns and times only their order, as these numbers never come again."""
        came = sorted([known.came for known in self._known.values()])
        used = sorted([known.used for known in self._known.values()])
        dirty = self.dirty_slots()
        records = self.records()
        return tuple([
            (
                slot, records[slot][BLOCK], dirty.index(slot) if slot in dirty else None,
                came.index(self._known[slot].came), used.index(self._known[slot].used), self._known[slot].uses,
            )
            for slot in records
        ])

    def slot_to_take(self, choice):
        """An unknown slot, otherwise the clean one that the choice tells; None if all are dirty."""
        for slot in range(self._slots):
            if slot not in self._known:
                return slot
        ranks = [
            (_rank(known, choice), slot)
            for slot, known in self._known.items() if not known.record[IS_DIRTY]
        ]
        if not ranks:
            return None
        return min(ranks)[1]


def _rank(known, choice):
    """What decides between clean slots: the one with the least rank is taken."""
    if choice == "used":
        return (known.used,)
    if choice == "came":
        return (known.came,)
    return (known.uses, known.used)

"""A slow disk with a fast disk before it, run step by step."""

from keepbefore.checks import MOST_SLOTS, MOST_VALUE, check_blocks, check_slots, is_number_from
from keepbefore.disks import Disk, are_kept
from keepbefore.errors import (
    HasFastDisk, InvalidBlock, InvalidCount, InvalidKept, InvalidValue, NoFastDisk, PowerFailed, PowerOff, PowerOn,
)
from keepbefore.memory import Memory
from keepbefore.records import BLOCK, IS_DIRTY, TURN, VALUE, cleaned, newest_dirty
from keepbefore.rules import Recipes

MOST_STEPS_AHEAD = 999
NO_COUNTS = (0, 0, 0)


class Pair:
    """Both disks, the rules by which they are used, and what is known of the fast one."""

    def __init__(self, blocks, slots, rules, *, recipes=None):
        check_blocks(blocks)
        check_slots(slots)
        if recipes is None:
            recipes = Recipes.safe()
        self._blocks = blocks
        self._rules = rules
        self._recipes = recipes
        self._slow = Disk(blocks)
        self._put_in_fast(slots)
        self._counts_of_dead = (*NO_COUNTS, *NO_COUNTS)
        self._requests = 0
        self._hits = 0
        self._next_turn = 1
        self._steps_left = None
        self._is_on = True
        self._is_done = False

    # Requests.

    def read(self, block):
        self._check_on()
        self._check_block(block)
        own = self._begin_request(block)
        if own is not None:
            return self._fast.read(own)[VALUE]
        value = self._slow.read(block)
        if self._rules.reading == "keep" and self._fast is not None:
            slot = self._take_slot()
            self._write_record(slot, (block, value, 0, False))
        return value

    def write(self, block, value):
        self._check_on()
        self._check_block(block)
        if not is_number_from(value, 0, MOST_VALUE):
            raise InvalidValue(f"a value is a number from 0 to {MOST_VALUE}")
        own = self._begin_request(block)
        turn = self._next_turn
        self._next_turn += 1
        target, stale = self._choose_slots(own)
        record = (block, value, turn, self._rules.writing == "back")
        for word in self._recipe_for_writing():
            self._carry_out(word, record, target, stale)
        if self._rules.writing == "back":
            self._clean_least_turns(len(self._memory.dirty_slots()) - self._rules.bound)
        self._is_done = False
        return own is not None

    # What is no request.

    def clean_up(self, count):
        self._check_on()
        if not is_number_from(count, 0, MOST_SLOTS):
            raise InvalidCount(f"a number of records to clean is from 0 to {MOST_SLOTS}")
        return self._clean_least_turns(count)

    def settle(self):
        self._check_on()
        self._sync_slow()
        self._sync_fast()

    def forget(self, block):
        self._check_on()
        self._check_block(block)
        own = self._memory.slot_of(block)
        if own is None or self._memory.record_in(own)[IS_DIRTY]:
            return False
        self._memory.forget(own)
        return True

    def set_rules(self, rules):
        self._check_on()
        self._rules = rules

    # Power.

    def fail_at(self, steps):
        self._check_on()
        if steps is not None and not is_number_from(steps, 0, MOST_STEPS_AHEAD):
            raise InvalidCount(f"a number of steps is from 0 to {MOST_STEPS_AHEAD}")
        self._steps_left = steps

    def cut(self):
        self._check_on()
        self._turn_off()

    def restart(self, slow_kept, fast_kept):
        if self._is_on:
            raise PowerOn("the pair is on")
        slow_pending, fast_pending = self.pending
        if not are_kept(slow_kept, len(slow_pending)) or not are_kept(fast_kept, len(fast_pending)):
            raise InvalidKept("not a tuple of ascending numbers of pending writes of each disk")
        self._slow.fail(slow_kept)
        self._next_turn = 1
        if self._fast is not None:
            self._fast.fail(fast_kept)
            self._find_records()
        self._is_on = True
        return self.dirty

    def put_in_disks(self, slow_contents, fast_contents):
        """Replaces both disks of a pair that is off by others, on which these contents are."""
        self._slow = Disk.holding(slow_contents)
        self._fast = Disk.holding(fast_contents)

    # Dying disks.

    def lose_fast(self):
        self._check_on()
        if self._fast is None:
            raise NoFastDisk("there is no fast disk that could die")
        dirty = [record for record in self._memory.records().values() if record[IS_DIRTY]]
        self._count_dead(NO_COUNTS, self._fast.counts)
        self._fast = None
        self._memory = Memory(0)
        return {record[BLOCK]: record[VALUE] for record in sorted(dirty)}

    def give_fast(self, slots):
        self._check_on()
        if self._fast is not None:
            raise HasFastDisk("there is a fast disk already")
        check_slots(slots)
        self._put_in_fast(slots)

    def lose_slow(self):
        self._check_on()
        self._count_dead(self._slow.counts, NO_COUNTS)
        self._slow = Disk(self._blocks)
        clean = [record for record in self._memory.records().values() if not record[IS_DIRTY]]
        for record in sorted(clean):
            self._write_slow(record)
        if clean:
            self._sync_slow()
        return [block for block in range(self._blocks) if self._memory.slot_of(block) is None]

    # What the pair shows.

    @property
    def block_values(self):
        self._check_on()
        values = list(self._slow.contents)
        for record in self._memory.records().values():
            values[record[BLOCK]] = record[VALUE]
        return values

    @property
    def known(self):
        self._check_on()
        return self._memory.records()

    @property
    def dirty(self):
        self._check_on()
        return sorted([record[BLOCK] for record in self._memory.records().values() if record[IS_DIRTY]])

    @property
    def hits(self):
        return self._hits

    @property
    def requests(self):
        return self._requests

    @property
    def rules(self):
        return self._rules

    @property
    def counts(self):
        fast_counts = NO_COUNTS if self._fast is None else self._fast.counts
        living = (*self._slow.counts, *fast_counts)
        return tuple([dead + count for dead, count in zip(self._counts_of_dead, living)])

    @property
    def pending(self):
        return (self._slow.pending, [] if self._fast is None else self._fast.pending)

    @property
    def lasting(self):
        """What both disks have without their pending writes; () for a fast disk that is not there."""
        return (self._slow.lasting, () if self._fast is None else self._fast.lasting)

    @property
    def is_on(self):
        return self._is_on

    # Checks.

    def _check_on(self):
        if not self._is_on:
            raise PowerOff("the pair is off")

    def _check_block(self, block):
        if not is_number_from(block, 0, self._blocks - 1):
            raise InvalidBlock("not the number of a block of the slow disk")

    # Parts of a request.

    def _begin_request(self, block):
        """Counts a request and, by a hit, uses the slot of the block, which it returns."""
        own = self._memory.slot_of(block)
        if own is not None:
            self._hits += 1
            self._memory.use(own, self._requests)
        self._requests += 1
        return own

    def _take_slot(self):
        slot = self._memory.slot_to_take(self._rules.choice)
        if slot is None:
            slot = self._memory.dirty_slots()[0]
            self._clean_slot(slot)
        self._memory.forget(slot)
        return slot

    def _choose_slots(self, own):
        """The slot into which "fast" writes and the one that "free" empties, None where there is none."""
        writing = self._rules.writing
        if self._fast is None:
            return (None, None)
        if writing == "through":
            return (own, None)
        if writing == "around":
            return (None, own)
        if own is not None and not self._memory.record_in(own)[IS_DIRTY]:
            return (own, None)
        taken = self._take_slot()
        return (taken, None if taken == own else own)

    def _recipe_for_writing(self):
        writing = self._rules.writing
        if writing == "around":
            return self._recipes.around
        if writing == "back" and self._fast is not None:
            return self._recipes.back
        return self._recipes.through

    def _carry_out(self, word, record, target, stale):
        if word == "slow":
            self._write_slow(record)
        elif word == "sync slow":
            self._sync_slow()
        elif word == "sync fast":
            self._sync_fast()
        elif word == "fast" and target is not None:
            self._write_record(target, record)
            # Two slots must never be known for one block, even if "free" comes later or never.
            if stale is not None:
                self._memory.forget(stale)
        elif word == "free" and stale is not None:
            self._write_fast(stale, None)
            self._memory.forget(stale)
        elif word == "done":
            self._is_done = True

    # Cleaning.

    def _clean_least_turns(self, count):
        """Cleans so many dirty records, if there are as many, and returns their blocks."""
        slots = self._memory.dirty_slots()[:max(count, 0)]
        for slot in slots:
            self._clean_slot(slot)
        return [self._memory.record_in(slot)[BLOCK] for slot in slots]

    def _clean_slot(self, slot):
        record = self._memory.record_in(slot)
        for word in self._recipes.clean:
            if word == "slow":
                self._write_slow(record)
            elif word == "sync slow":
                self._sync_slow()
            elif word == "mark":
                self._write_fast(slot, cleaned(record))
            else:
                self._sync_fast()
        self._memory.learn_clean(slot)

    # Steps.

    def _begin_step(self):
        """Stands ahead of each write and sync: here the power can fail."""
        if self._steps_left == 0:
            is_done = self._is_done
            self._turn_off()
            raise PowerFailed(is_done)
        if self._steps_left is not None:
            self._steps_left -= 1

    def _write_slow(self, record):
        self._begin_step()
        self._slow.write(record[BLOCK], record[VALUE])

    def _sync_slow(self):
        self._begin_step()
        self._slow.sync()

    def _write_fast(self, slot, content):
        self._begin_step()
        self._fast.write(slot, content)

    def _write_record(self, slot, record):
        """Writes a record that the current request made, and knows it from then on."""
        self._write_fast(slot, record)
        self._memory.learn(slot, record, self._requests - 1)

    def _sync_fast(self):
        if self._fast is not None:
            self._begin_step()
            self._fast.sync()

    # Power and disks.

    def _turn_off(self):
        self._is_on = False
        self._is_done = False
        self._steps_left = None
        self._memory = Memory(0)

    def _put_in_fast(self, slots):
        self._fast = Disk(slots, content=None)
        self._memory = Memory(slots)

    def _count_dead(self, slow_counts, fast_counts):
        dying = (*slow_counts, *fast_counts)
        self._counts_of_dead = tuple([dead + count for dead, count in zip(self._counts_of_dead, dying)])

    def _find_records(self):
        """Reads all slots behind a failure, knows the newest dirty records and frees all older ones."""
        slots = len(self._fast.contents)
        contents = [self._fast.read(slot) for slot in range(slots)]
        self._next_turn = 1 + max([0] + [record[TURN] for record in contents if record is not None])
        newest = newest_dirty(contents)
        self._memory = Memory(slots)
        older = []
        for slot, record in enumerate(contents):
            if record is None or not record[IS_DIRTY]:
                continue
            if newest[record[BLOCK]] == slot:
                self._memory.learn(slot, record, self._requests - 1)
            else:
                older.append(slot)
        for slot in older:
            self._write_fast(slot, None)
        if older:
            self._sync_fast()

"""A pair as the tests walk through it by themselves: plain lists, and calls that stop ahead of each step."""

import itertools

from tests.helpers import SAFE


def contents_of(lasting, pending):
    contents = list(lasting)
    for cell, content in pending:
        contents[cell] = content
    return contents


class Model:
    """Shows and returns what a pair is to show and return; rules and recipes are plain tuples.

    Each call gives what `told` in twins.py gives for a call of a pair. Arguments are valid ones.
    """

    def __init__(self, blocks, slots, rules, recipes=SAFE):
        self.blocks = blocks
        self.rules = rules
        self.recipes = dict(zip(("through", "back", "around", "clean"), recipes))
        self.lasting = {"slow": [0] * blocks, "fast": [None] * slots}
        self.waiting = {"slow": [], "fast": []}
        self.tally = {"slow": [0, 0, 0], "fast": [0, 0, 0]}
        # A known slot has its record and the times of all requests that used it, from its coming on.
        self.memory = {}
        self.hits = 0
        self.requests = 0
        self.turn = 0
        self.left = None
        self.is_on = True
        self.is_done = False
        self.result = None
        self.steps = 0

    # What is shown.

    def has_fast(self):
        return self.lasting["fast"] is not None

    def contents(self, name):
        return contents_of(self.lasting[name], self.waiting[name])

    def home(self, block):
        homes = [slot for slot, (record, _) in self.memory.items() if record[0] == block]
        assert len(homes) < 2
        return homes[0] if homes else None

    def counts(self):
        return (*self.tally["slow"], *self.tally["fast"])

    def pending(self):
        return (self.waiting["slow"], self.waiting["fast"])

    def block_values(self):
        values = self.contents("slow")
        for slot, (record, _) in self.memory.items():
            values[record[0]] = self.contents("fast")[slot][1]
        return values

    def known(self):
        return {slot: self.memory[slot][0] for slot in sorted(self.memory)}

    def dirty_slots(self):
        dirty = [slot for slot, (record, _) in self.memory.items() if record[3]]
        return sorted(dirty, key=lambda slot: (self.memory[slot][0][2], slot))

    def dirty(self):
        return sorted(self.memory[slot][0][0] for slot in self.dirty_slots())

    def shown(self):
        always = [self.pending(), self.counts(), self.rules, self.hits, self.requests, self.is_on]
        if self.is_on:
            return always + [self.block_values(), self.known(), self.dirty()]
        return always + ["PowerOff"] * 3

    # Calls.

    def carry_out(self, actions):
        """Goes from step to step, until the power fails or all is over."""
        self.result = None
        self.is_done = False
        for _ in actions:
            if self.left == 0:
                self.turn_off()
                return ("PowerFailed", {"is_done": self.is_done})
            if self.left is not None:
                self.left -= 1
            self.steps += 1
        return ("value", self.result)

    def call(self, name, *arguments):
        if self.is_on == (name == "restart"):
            return ("PowerOn", {}) if self.is_on else ("PowerOff", {})
        if name == "lose_fast" and not self.has_fast():
            return ("NoFastDisk", {})
        if name == "give_fast" and self.has_fast():
            return ("HasFastDisk", {})
        return self.carry_out(getattr(self, f"do_{name}")(*arguments))

    def turn_off(self):
        self.is_on = False
        self.left = None
        self.memory = {}

    def begin(self, block):
        own = self.home(block)
        if own is not None:
            self.hits += 1
            self.memory[own][1].append(self.requests)
        self.requests += 1
        return own

    def do_read(self, block):
        own = self.begin(block)
        if own is not None:
            self.tally["fast"][0] += 1
            self.result = self.contents("fast")[own][1]
            return
        self.tally["slow"][0] += 1
        self.result = self.contents("slow")[block]
        if self.rules[1] == "keep" and self.has_fast():
            slot = yield from self.taking()
            yield from self.noting(slot, (block, self.contents("slow")[block], 0, False))

    def do_write(self, block, value):
        own = self.begin(block)
        self.turn += 1
        turn = self.turn
        writing = self.rules[0]
        taken = None
        if writing == "back" and not self.has_fast():
            writing = "through"
        if writing == "back":
            taken = own
            if own is None or self.memory[own][0][3]:
                taken = yield from self.taking()
        for word in self.recipes[writing]:
            if word == "slow":
                yield from self.put("slow", block, value)
            elif word in ("sync slow", "sync fast"):
                yield from self.sync(word[5:])
            elif word == "done":
                self.is_done = True
            elif word == "fast" and writing == "through" and own is not None:
                yield from self.noting(own, (block, value, turn, False))
            elif word == "fast" and writing == "back":
                yield from self.noting(taken, (block, value, turn, True))
                if own != taken:
                    self.memory.pop(own, None)
            elif word == "free" and writing != "through" and own is not None and own != taken:
                yield from self.put("fast", own, None)
                self.memory.pop(own, None)
        while writing == "back" and len(self.dirty_slots()) > self.rules[3]:
            yield from self.cleaning(self.dirty_slots()[0])
        self.result = own is not None

    def do_clean_up(self, count):
        blocks = []
        while self.dirty_slots() and len(blocks) < count:
            slot = self.dirty_slots()[0]
            blocks.append(self.memory[slot][0][0])
            yield from self.cleaning(slot)
        self.result = blocks

    def do_settle(self):
        yield from self.sync("slow")
        yield from self.sync("fast")

    def do_forget(self, block):
        own = self.home(block)
        self.result = own is not None and not self.memory[own][0][3]
        if self.result:
            del self.memory[own]
        yield from ()

    def do_set_rules(self, rules):
        self.rules = rules
        yield from ()

    def do_fail_at(self, steps):
        self.left = steps
        yield from ()

    def do_cut(self):
        self.turn_off()
        yield from ()

    def do_restart(self, slow_kept, fast_kept):
        self.is_on = True
        for name, kept in (("slow", slow_kept), ("fast", fast_kept)):
            if self.lasting[name] is not None:
                self.lasting[name] = contents_of(self.lasting[name], [self.waiting[name][at] for at in kept])
                self.waiting[name] = []
        records = self.lasting["fast"] or []
        self.tally["fast"][0] += len(records)
        self.turn = max((record[2] for record in records if record), default=0)
        ranked = sorted((-record[2], slot) for slot, record in enumerate(records) if record and record[3])
        for _, slot in ranked:
            if self.home(records[slot][0]) is None:
                self.memory[slot] = [records[slot], [self.requests - 1]]
        freed = sorted(slot for _, slot in ranked if slot not in self.memory)
        for slot in freed:
            yield from self.put("fast", slot, None)
        if freed:
            yield from self.sync("fast")
        self.result = self.dirty()

    def do_lose_fast(self):
        self.result = {block: self.block_values()[block] for block in self.dirty()}
        self.lasting["fast"] = None
        self.waiting["fast"] = []
        self.memory = {}
        yield from ()

    def do_give_fast(self, slots):
        self.lasting["fast"] = [None] * slots
        yield from ()

    def do_lose_slow(self):
        self.lasting["slow"] = [0] * self.blocks
        self.waiting["slow"] = []
        clean = sorted(record[:2] for record, _ in self.memory.values() if not record[3])
        for block, value in clean:
            yield from self.put("slow", block, value)
        if clean:
            yield from self.sync("slow")
        self.result = [block for block in range(self.blocks) if self.home(block) is None]

    # Parts of calls.

    def put(self, name, cell, content):
        yield
        self.tally[name][1] += 1
        self.waiting[name].append((cell, content))

    def sync(self, name):
        if self.lasting[name] is not None:
            yield
            self.tally[name][2] += 1
            self.lasting[name] = self.contents(name)
            self.waiting[name] = []

    def noting(self, slot, record):
        yield from self.put("fast", slot, record)
        if slot in self.memory and self.memory[slot][0][0] == record[0]:
            self.memory[slot][0] = record
        else:
            self.memory[slot] = [record, [self.requests - 1]]

    def taking(self):
        for slot in range(len(self.lasting["fast"])):
            if slot not in self.memory:
                return slot
        if len(self.dirty_slots()) == len(self.memory):
            slot = self.dirty_slots()[0]
            yield from self.cleaning(slot)
        else:
            clean = [slot for slot in sorted(self.memory) if not self.memory[slot][0][3]]
            slot = min(clean, key=self.rank)
        del self.memory[slot]
        return slot

    def rank(self, slot):
        times = self.memory[slot][1]
        return {"came": [times[0]], "used": [times[-1]], "rare": [min(9, len(times)), times[-1]]}[self.rules[2]]

    def cleaning(self, slot):
        record = self.memory[slot][0]
        for word in self.recipes["clean"]:
            if word == "slow":
                yield from self.put("slow", record[0], record[1])
            elif word == "mark":
                yield from self.put("fast", slot, (*record[:3], False))
            else:
                yield from self.sync(word[5:])
        self.memory[slot][0] = (*record[:3], False)


def values_left(slow, fast):
    """The values of all blocks if a restart finds these contents."""
    values = list(slow)
    dirty = [record for record in fast if record is not None and record[3]]
    # The slot with the least number counts of equal turns, so it is set last.
    for record in sorted(reversed(dirty), key=lambda record: record[2]):
        values[record[0]] = record[1]
    return tuple(values)


def all_left(model):
    """What there is after a failure now, by each part kept of both disks, in tuple order: (kept, kept, values)."""
    parts = {}
    for name in ("slow", "fast"):
        waiting = model.waiting[name]
        kept = sorted(itertools.chain.from_iterable(
            itertools.combinations(range(len(waiting)), many) for many in range(len(waiting) + 1)))
        parts[name] = [(part, contents_of(model.lasting[name], [waiting[at] for at in part])) for part in kept]
    for slow_kept, slow in parts["slow"]:
        for fast_kept, fast in parts["fast"]:
            yield slow_kept, fast_kept, values_left(slow, fast)

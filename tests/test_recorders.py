"""Recorders of pairs: what they carry out, and the logs that they keep."""

import itertools
import random
import unittest

from keepbefore.logs import Recorder, first_error, possible_values
from keepbefore.pairs import Pair
from keepbefore.rules import Recipes, Rules
from keepbefore.stories import is_bad, tell
from tests.helpers import OTHER_KINDS, SAFE, TRIPLES, any_recipes
from tests.twins import any_request, any_rules, new_pair, shown, told

RECORDED = ("read", "write", "fail_at", "cut", "restart", "lose_fast", "lose_slow")
BACK = Rules("back", "keep", "used", 8)


class Life:
    """A recorded pair, a pair that lives the same without a recorder, and the log by own walking."""

    def __init__(self, blocks, slots, rules, recipes=SAFE):
        self.blocks = blocks
        self.pair, self.plain = new_pair(blocks, slots, rules, recipes), new_pair(blocks, slots, rules, recipes)
        self.recorder = Recorder(self.pair)
        self.log = []
        self.done = [(blocks, slots, rules, recipes)]

    def do(self, name, *arguments):
        """What the recorder gives and what the other pair gives."""
        self.done.append((name, *arguments))
        dirty = self.plain.dirty if self.plain.is_on else []
        expected = told(getattr(self.plain, name), *arguments)
        found = told(getattr(self.recorder if name in RECORDED else self.pair, name), *arguments)
        self.note(name, arguments, dirty, *expected)
        return found, expected

    def note(self, name, arguments, dirty, kind, result):
        failed = [("fail",)] if kind == "PowerFailed" else []
        if kind not in ("value", "PowerFailed") or name not in RECORDED:
            return
        if name == "write":
            is_done = not failed or result["is_done"]
            self.log += [("begin", *arguments), *[("done",)] * is_done, *failed]
        elif name == "read":
            self.log += failed or [("read", *arguments, result)]
        elif name == "cut":
            self.log.append(("fail",))
        elif name == "lose_slow" and failed:
            self.log += [("lost", block) for block in range(self.blocks) if block not in dirty] + failed
        elif name in ("lose_fast", "lose_slow"):
            self.log += [("lost", block) for block in sorted(result)]


class LivesTestCase(unittest.TestCase):
    def do(self, life, name, *arguments):
        """Does the same to both pairs, which must give and then show the same."""
        found, expected = life.do(name, *arguments)
        self.assertEqual(repr(found), repr(expected), life.done)
        self.assertEqual(repr(shown(life.pair)), repr(shown(life.plain)), life.done)
        self.assertEqual(repr(life.recorder.log), repr(life.log), life.done)
        return found

    def any_step(self, source, life, words):
        """Does anything that one of the words tells; what is off is restarted at times."""
        word = source.choice(words)
        if not life.pair.is_on and source.random() < 0.7:
            kept = [tuple(at for at in range(len(writes)) if source.random() < 0.5) for writes in life.pair.pending]
            self.do(life, "restart", *kept)
        elif word == "request":
            self.do(life, *any_request(source, life.blocks))
        elif word == "fail_at":
            self.do(life, "fail_at", source.choice([None, *range(12)]))
        elif word == "set_rules":
            self.do(life, "set_rules", Rules(*any_rules(source)))
        elif word == "clean_up":
            self.do(life, "clean_up", source.randint(0, 8))
        elif word == "forget":
            self.do(life, "forget", source.randrange(life.blocks))
        elif word == "give_fast":
            self.do(life, "give_fast", source.randint(1, 4))
        else:
            self.do(life, word)

    def any_life(self, source, recipes=SAFE, most_blocks=6):
        return Life(source.randint(1, most_blocks), source.randint(1, 4), any_rules(source), recipes)


class RecorderTest(LivesTestCase):
    def test_requests_failures_and_cuts(self):
        source = random.Random(1)
        words = set()
        for number in range(120):
            life = self.any_life(source, SAFE if number % 3 else any_recipes(source))
            for _ in range(40):
                self.any_step(source, life, ["request"] * 6 + ["fail_at"] * 2 + ["cut", "set_rules", "clean_up", "forget"])
            words |= {entry[0] for entry in life.log}
        self.assertEqual(words, {"read", "begin", "done", "fail"})

    def test_dying_disks_also_while_the_power_fails(self):
        source = random.Random(2)
        failed, lost = 0, 0
        for number in range(150):
            life = self.any_life(source, SAFE if number % 3 else any_recipes(source))
            for _ in range(40):
                words = ["request"] * 6 + ["fail_at"] * 2 + ["lose_slow", "lose_fast", "give_fast", "settle", "set_rules"]
                self.any_step(source, life, words)
                failed += life.log[-2:-1] != [] and life.log[-2][0] == "lost" and life.log[-1] == ("fail",)
            lost += len([entry for entry in life.log if entry[0] == "lost"])
            if life.done[0][3] == SAFE:
                self.assertIsNone(first_error(life.blocks, life.log), life.done)
        self.assertGreater(failed, 10)
        self.assertGreater(lost, 100)

    def test_the_power_fails_in_lose_slow(self):
        for steps, kept in itertools.product(range(4), ((), (0,), (0, 1))):
            life = Life(4, 3, ("back", "keep", "used", 8))
            for call in (("write", 0, 5), ("read", 1), ("write", 2, 6), ("clean_up", 1), ("fail_at", steps)):
                self.do(life, *call)
            self.assertEqual([life.pair.dirty, sorted(record[0] for record in life.pair.known.values())], [[2], [0, 1, 2]])
            log = life.recorder.log
            kind, _ = self.do(life, "lose_slow")
            if steps == 3:
                self.assertEqual([kind, life.recorder.log], ["value", [*log, ("lost", 3)]])
                continue
            self.assertEqual(kind, "PowerFailed")
            self.assertEqual(life.recorder.log, [*log, ("lost", 0), ("lost", 1), ("lost", 3), ("fail",)])
            self.do(life, "restart", tuple(number for number in kept if number < steps), ())
            for block in range(4):
                self.do(life, "read", block)
            self.assertIsNone(first_error(4, life.recorder.log))

    def test_interrupted_writes(self):
        entries = [("begin", 0, 6), ("done",), ("fail",)]
        for steps, log in ((0, [entries[0], entries[2]]), (1, [entries[0], entries[2]]), (2, entries), (3, entries)):
            life = Life(1, 2, ("back", "pass", "used", 8))
            for call in (("write", 0, 5), ("fail_at", steps), ("write", 0, 6)):
                self.do(life, *call)
            self.assertEqual(life.recorder.log, [("begin", 0, 5), ("done",), *log])
        life = Life(2, 1, ("back", "keep", "used", 8))
        for call in (("write", 0, 5), ("fail_at", 0), ("read", 1)):
            self.do(life, *call)
        self.assertEqual(life.recorder.log, [("begin", 0, 5), ("done",), ("fail",)])

    def test_failures_in_other_calls_are_not_told(self):
        for name, arguments in (("settle", ()), ("clean_up", (1,))):
            life = Life(1, 1, ("back", "keep", "used", 8))
            for call in (("write", 0, 5), ("fail_at", 0), (name, *arguments)):
                self.do(life, *call)
            self.assertIs(life.pair.is_on, False)
            self.assertEqual(life.recorder.log, [("begin", 0, 5), ("done",)])

    def test_errors_leave_the_log_as_it_is(self):
        life = Life(2, 1, ("back", "keep", "used", 8))
        self.do(life, "write", 0, 5)
        for thing in OTHER_KINDS:
            self.assertEqual(self.do(life, "read", thing)[0], "InvalidBlock")
            self.assertEqual(self.do(life, "write", thing, None)[0], "InvalidBlock")
            self.assertEqual(self.do(life, "write", 1, thing)[0], "InvalidValue")
            if thing is not None:
                self.assertEqual(self.do(life, "fail_at", thing)[0], "InvalidCount")
            self.assertEqual(self.do(life, "restart", thing, thing)[0], "PowerOn")
        self.do(life, "lose_fast")
        self.assertEqual(self.do(life, "lose_fast")[0], "NoFastDisk")
        self.do(life, "cut")
        for call in (("read", None), ("write", None, None), ("fail_at", -1), ("cut",), ("lose_fast",), ("lose_slow",)):
            self.assertEqual(self.do(life, *call)[0], "PowerOff")
        for thing in OTHER_KINDS:
            if thing != ():
                self.assertEqual(self.do(life, "restart", (), thing)[0], "InvalidKept")
        self.assertEqual(life.recorder.log, [("begin", 0, 5), ("done",), ("lost", 0), ("fail",)])

    def test_resume(self):
        source = random.Random(3)
        for _ in range(80):
            life = self.any_life(source, any_recipes(source))
            for _ in range(12):
                self.any_step(source, life, ["request"] * 3 + ["fail_at", "cut", "settle", "lose_fast"])
            was_on = life.pair.is_on
            log = life.recorder.log
            self.assertIs(life.recorder.resume(), not was_on)
            self.assertIs(life.recorder.resume(), False)
            if not was_on:
                life.plain.restart((), ())
            self.assertEqual(repr(shown(life.pair)), repr(shown(life.plain)))
            self.assertEqual(life.recorder.log, log)

    def test_the_log_may_be_modified(self):
        recorder = Recorder(Pair(1, 1, BACK))
        self.assertEqual(recorder.log, [])
        recorder.write(0, 5)
        recorder.log.clear()
        log = recorder.log
        log.append(None)
        recorder.cut()
        self.assertEqual(recorder.log, [("begin", 0, 5), ("done",), ("fail",)])
        self.assertEqual(log, [("begin", 0, 5), ("done",), None])


class PromiseTest(LivesTestCase):
    def test_long_random_lives(self):
        source = random.Random(4)
        words = ["request"] * 12 + ["fail_at"] * 3 + [
            "cut", "set_rules", "set_rules", "clean_up", "forget", "settle", "lose_fast", "lose_slow", "give_fast"]
        for number in range(60):
            life = self.any_life(source, most_blocks=10)
            for _ in range(120):
                # Few disks die in most lives.
                self.any_step(source, life, words[:-3] if number % 3 and source.random() < 0.9 else words)
                self.assert_right(life)

    def assert_right(self, life):
        log = life.recorder.log
        self.assertIsNone(first_error(life.blocks, log), life.done)
        if life.pair.is_on:
            for value, possible in zip(life.pair.block_values, possible_values(life.blocks, log)):
                self.assertTrue(possible == [-1] or value in possible, life.done)

    def test_one_write_that_fails_ahead_of_each_step(self):
        for triple, steps in itertools.product(TRIPLES, range(12)):
            life = Life(2, 2, (*triple, 1))
            for call in (("write", 0, 5), ("read", 1), ("write", 1, 6), ("fail_at", steps), ("write", 0, 7)):
                self.do(life, *call)
            if life.pair.is_on:
                self.do(life, "cut")
            self.assertEqual(possible_values(2, life.log), [[7] if ("done",) in life.log[5:] else [5, 7], [6]])
            self.assertIs(life.recorder.resume(), True)
            for block in (0, 1):
                life.recorder.read(block)
            self.assertIsNone(first_error(2, life.recorder.log))


class StoriesTest(unittest.TestCase):
    def play(self, recipes, story):
        """The log of a story, by a recorder."""
        tasks, failure = story
        pair = Pair(1, 2, Rules("through", "pass", "used", 8), recipes=recipes)
        recorder = Recorder(pair)
        value = 0
        for number, task in enumerate(tasks):
            if failure is not None and number == len(tasks) - 1:
                recorder.fail_at(failure[0])
            if task == "clean":
                told(pair.clean_up, 1)
            elif task == "drop":
                pair.forget(0)
            else:
                value += 1
                pair.set_rules(Rules(task, "pass", "used", 8))
                told(recorder.write, 0, value)
        if failure is not None:
            told(recorder.cut)
            recorder.restart(*failure[1:])
        recorder.read(0)
        return recorder.log

    def test_the_last_entry_is_an_error_just_where_a_story_is_bad(self):
        source = random.Random(5)
        tasks = ["around", "back", "clean", "drop", "through"]
        bad = 0
        for number in range(1500):
            recipes = Recipes(*(SAFE if number % 10 == 0 else any_recipes(source)))
            failure = source.choice([None, *[(source.randint(0, 6), *self.any_kept(source)) for _ in range(4)]])
            story = (tuple(source.choice(tasks) for _ in range(source.randint(1, 4))), failure)
            kind, value = told(tell, recipes, story)
            if kind != "value":
                continue
            log = self.play(recipes, story)
            self.assertEqual(log[-1], ("read", 0, value))
            self.assertEqual(first_error(1, log), len(log) - 1 if is_bad(recipes, story) else None, (story, log))
            bad += is_bad(recipes, story)
        self.assertGreater(bad, 60)

    def any_kept(self, source):
        return source.choice([((), ()), ((), (0,)), ((0,), ()), ((0,), (0,)), ((), (1,))])


if __name__ == "__main__":
    unittest.main()

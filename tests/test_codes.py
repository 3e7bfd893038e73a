"""Images of pairs, and pairs that are loaded from images."""

import random
import unittest

from keepbefore.codes import image, load
from keepbefore.errors import PowerFailed
from keepbefore.pairs import Pair
from keepbefore.rules import Recipes, Rules
from tests.helpers import OTHER_KINDS, WORDS, any_recipes, example_result, rule_parts
from tests.model import Model
from tests.twins import any_kept, any_request, any_rules, new_pair, shown, told

EXAMPLE = """
>>> from keepbefore.codes import image
>>> from keepbefore.pairs import Pair
>>> from keepbefore.rules import Rules
>>> image(Pair(1, 1, Rules("through", "keep", "used", 0)))
[75, 1, 1, 0, 0, 0, 0, 0, 0, 0, 167]
"""

RULES = Rules("back", "keep", "used", 8)


def with_checksum(numbers):
    checksum = 3
    for number in numbers:
        checksum = (checksum * 5 + number) % 239
    return [*numbers, checksum]


def numbers_of(rules, slow, fast):
    """The image of these disks, put together by own rules, without the checksum."""
    words = [WORDS[part].index(rules[part]) for part in range(3)]
    numbers = [75, len(slow), len(fast), *words, rules[3]]
    for value in slow:
        numbers += [value // 256, value % 256]
    for record in fast:
        if record is None:
            numbers.append(0)
        else:
            block, value, turn, is_dirty = record
            numbers += [2 if is_dirty else 1, block, value // 256, value % 256, turn // 256, turn % 256]
    return numbers


def image_of(rules, slow, fast):
    return with_checksum(numbers_of(rules, slow, fast))


def any_value(source):
    return source.choice([0, 255, 256, 511, 512, 767, 768, 998, 999, source.randrange(1000)])


def any_disks(source, most_blocks=16):
    """Rules and what both disks have; often several dirty records of one block, and great turns."""
    blocks, turns = source.randint(1, most_blocks), source.choice([5, 300, 65535])
    slow = [any_value(source) for _ in range(blocks)]
    fast = []
    for _ in range(source.randint(1, 8)):
        turn = source.choice([turns, source.randint(0, turns), source.randint(0, turns)])
        record = (source.randrange(blocks), any_value(source), turn, source.random() < 0.6)
        fast.append(None if source.random() < 0.25 else record)
    return any_rules(source), slow, fast


def loaded_model(rules, slow, fast):
    """A model with these disks, restarted."""
    model = Model(len(slow), len(fast), rules)
    model.lasting = {"slow": list(slow), "fast": list(fast)}
    model.is_on = False
    model.call("restart", (), ())
    return model


class ImageTest(unittest.TestCase):
    def test_the_example(self):
        result, told_result = example_result(EXAMPLE)
        self.assertEqual(repr(result), repr(told_result))

    def test_random_lives_that_are_settled_where_something_is_pending(self):
        source = random.Random(1)
        unsettled = 0
        for _ in range(200):
            given = source.randint(1, 16), source.randint(1, 8), any_rules(source), any_recipes(source)
            pair, model = new_pair(*given), Model(*given)
            for _ in range(source.randint(0, 40)):
                request = any_request(source, given[0])
                getattr(pair, request[0])(*request[1:])
                model.call(*request)
            before = repr(shown(pair))
            if any(model.pending()):
                unsettled += 1
                self.assertEqual(told(image, pair), ("Unsettled", {}))
                self.assertEqual(repr(shown(pair)), before)
                pair.settle()
                model.call("settle")
            before = repr(shown(pair))
            numbers = image(pair)
            self.assertEqual(repr(numbers), repr(image_of(given[2], model.contents("slow"), model.contents("fast"))))
            self.assertTrue(all(type(number) is int and 0 <= number <= 255 for number in numbers))
            self.assertEqual([repr(shown(pair)), image(pair)], [before, numbers])
        self.assertGreater(unsettled, 50)

    def test_slots_that_are_not_known_are_told_too(self):
        pair = Pair(2, 2, RULES)
        pair.write(0, 258)
        pair.clean_up(1)
        pair.forget(0)
        pair.write(1, 7)
        self.assertEqual(pair.known, {0: (1, 7, 2, True)})
        self.assertEqual(image(pair), image_of(rule_parts(RULES), [258, 0], [(1, 7, 2, True), None]))
        pair = Pair(2, 2, RULES)
        pair.write(0, 258)
        pair.clean_up(1)
        pair.forget(0)
        self.assertEqual(image(pair), image_of(rule_parts(RULES), [258, 0], [(0, 258, 1, False), None]))

    def test_each_word_of_the_rules(self):
        source = random.Random(2)
        for _ in range(100):
            rules = any_rules(source)
            numbers = image(Pair(1, 1, Rules(*rules)))
            self.assertEqual(numbers[3:7], [*[WORDS[part].index(rules[part]) for part in range(3)], rules[3]])
            self.assertEqual(load(numbers).rules, Rules(*rules))

    def test_pairs_that_are_off_or_have_no_fast_disk_or_pending_writes(self):
        # By "pass" no read takes a slot, and by a lone "slow" a write stays pending.
        recipes = Recipes(("slow", "done"), ("slow", "done"), ("slow", "done"), ())
        for is_off in (False, True):
            for is_lost in (False, True):
                for is_pending in (False, True):
                    pair = Pair(1, 1, Rules("through", "pass", "used", 0), recipes=recipes)
                    if is_pending:
                        pair.write(0, 5)
                    if is_lost:
                        pair.lose_fast()
                    if is_off:
                        pair.cut()
                    before = repr(shown(pair))
                    error = "PowerOff" if is_off else "NoFastDisk" if is_lost else "Unsettled" if is_pending else "value"
                    self.assertEqual(told(image, pair)[0], error)
                    self.assertEqual(repr(shown(pair)), before)
        pair.restart((), ())
        pair.give_fast(2)
        self.assertEqual(image(pair), image_of(("through", "pass", "used", 0), [0], [None, None]))

    def test_pending_writes_of_either_disk(self):
        pair = Pair(2, 1, Rules("through", "keep", "used", 0))
        pair.read(0)
        self.assertEqual([pair.pending, told(image, pair)], [([], [(0, (0, 0, 0, False))]), ("Unsettled", {})])
        pair.settle()
        self.assertEqual(image(pair), image_of(("through", "keep", "used", 0), [0, 0], [(0, 0, 0, False)]))

    def test_turns_of_65535_and_above(self):
        for turn in (65534, 65535):
            pair = load(image_of(("back", "keep", "used", 8), [0, 0], [(0, 5, turn, True), None]))
            self.assertEqual(pair.known, {0: (0, 5, turn, True)})
            numbers = image(pair)
            self.assertEqual(numbers[15:17], [255, turn - 65280])
            pair.write(1, 6)
            self.assertEqual(pair.known[1], (1, 6, turn + 1, True))
            if turn == 65534:
                self.assertEqual(image(pair)[21:23], [255, 255])
            else:
                self.assertEqual(told(image, pair), ("Unsettled", {}))
                # It is the record that counts, known or not.
                pair.clean_up(8)
                pair.forget(1)
                self.assertEqual(told(image, pair), ("Unsettled", {}))
        # A record that is gone does not count, however great its turn was.
        pair.write(0, 7)
        pair.set_rules(Rules("around", "pass", "used", 8))
        pair.write(1, 8)
        pair.write(0, 9)
        self.assertEqual(told(image, pair)[0], "Unsettled")
        pair.set_rules(RULES)
        pair.lose_fast()
        pair.give_fast(1)
        self.assertEqual(told(image, pair)[0], "value")

    def test_pending_writes_with_a_great_turn(self):
        pair = load(image_of(("back", "keep", "used", 8), [0], [(0, 5, 65535, True)]))
        pair.cut()
        self.assertEqual(told(image, pair), ("PowerOff", {}))


class LoadTest(unittest.TestCase):
    def test_random_disks(self):
        source = random.Random(3)
        freed = 0
        for number in range(600):
            rules, slow, fast = any_disks(source, 16 if number % 2 else 3)
            numbers = image_of(rules, slow, fast)
            text = repr(numbers)
            pair, model = load(numbers), loaded_model(rules, slow, fast)
            self.assertIs(type(pair), Pair)
            self.assertEqual(repr(shown(pair)), repr(model.shown()), (rules, slow, fast))
            self.assertEqual(pair.counts[:4], (0, 0, 0, len(fast)))
            freed += pair.counts[4]
            self.assertEqual(image(pair), image_of(rules, slow, model.lasting["fast"]))
            self.assertEqual(repr(numbers), text)
        self.assertGreater(freed, 100)

    def test_loaded_pairs_go_on_as_a_restarted_model_does(self):
        source = random.Random(4)
        for _ in range(150):
            disks = any_disks(source, 5)
            pair, model = load(image_of(*disks)), loaded_model(*disks)
            for _ in range(15):
                name, *arguments = call = self.any_call(source, pair, model)
                self.assertEqual(repr(told(getattr(pair, name), *arguments)), repr(model.call(*call)), (disks, call))
                self.assertEqual(repr(shown(pair)), repr(model.shown()), (disks, call))

    def any_call(self, source, pair, model):
        if not pair.is_on:
            return ("restart", *any_kept(source, model))
        word = source.choice(["request"] * 6 + ["fail_at", "cut", "clean_up", "settle"])
        if word == "request":
            return any_request(source, model.blocks)
        return (word, *[source.randint(0, 8)] * (word in ("fail_at", "clean_up")))

    def test_settled_imaged_and_loaded(self):
        source = random.Random(5)
        for _ in range(100):
            blocks, slots, rules = source.randint(1, 8), source.randint(1, 5), any_rules(source)
            pair = new_pair(blocks, slots, rules)
            for _ in range(source.randint(0, 25)):
                self.do(pair, any_request(source, blocks))
            pair.settle()
            numbers = image(pair)
            loaded = load(numbers)
            self.assertEqual([loaded.block_values, loaded.dirty, image(loaded)], [pair.block_values, pair.dirty, numbers])
            # A cut pair forgets what a loaded one never knew, so both go on alike.
            pair.cut()
            pair.restart((), ())
            hits, counts = pair.hits, pair.counts
            for _ in range(15):
                request = any_request(source, blocks)
                self.assertEqual(self.do(pair, request), self.do(loaded, request))
            behind = [pair.hits - hits, *[now - then for now, then in zip(pair.counts, counts)]]
            self.assertEqual(behind, [loaded.hits, *loaded.counts[:3], loaded.counts[3] - slots, *loaded.counts[4:]])
            self.assertEqual([pair.known, pair.pending], [loaded.known, loaded.pending])
            self.assertEqual(pair.block_values, loaded.block_values)

    def do(self, pair, request):
        return getattr(pair, request[0])(*request[1:])

    def test_several_dirty_records_of_a_block(self):
        records = [(0, 1, 3, True), (0, 2, 9, True), (0, 3, 9, True), (0, 4, 9, False), (1, 5, 2, True)]
        pair = load(image_of(("back", "keep", "used", 8), [7, 8], records))
        self.assertEqual(pair.known, {1: (0, 2, 9, True), 4: (1, 5, 2, True)})
        self.assertEqual([pair.counts, pair.pending], [(0, 0, 0, 5, 2, 1), ([], [])])
        self.assertEqual([pair.block_values, pair.hits, pair.requests], [[2, 5], 0, 0])
        self.assertIs(pair.write(0, 6), True)
        self.assertEqual(pair.known[0], (0, 6, 10, True))

    def test_a_loaded_pair_has_the_safe_recipes_and_no_failure_set(self):
        bare = Recipes(("done",), ("done",), ("done",), ())
        pair = load(image(Pair(2, 2, Rules("through", "keep", "used", 0), recipes=bare)))
        pair.write(0, 5)
        self.assertEqual([pair.counts, pair.pending], [(0, 1, 1, 2, 0, 1), ([], [])])
        pair.fail_at(1)
        with self.assertRaises(PowerFailed):
            pair.write(0, 6)


class WrongImagesTest(unittest.TestCase):
    def assert_wrong(self, numbers, offset):
        text = repr(numbers)
        self.assertEqual(repr(told(load, numbers)), repr(("DecodeError", {"offset": offset})), numbers)
        self.assertEqual(repr(numbers), text)

    def most_of_each(self, numbers):
        """For each number but the checksum the greatest one that can be there, with those ahead of it."""
        mosts = [75, 16, 8, 2, 1, 2, 8]
        blocks = numbers[1]
        while len(mosts) < 7 + 2 * blocks:
            mosts += [3, 231 if numbers[len(mosts)] == 3 else 255]
        for _ in range(numbers[2]):
            kind = numbers[len(mosts)]
            mosts.append(2)
            if kind:
                mosts += [blocks - 1, 3, 231 if numbers[len(mosts) + 1] == 3 else 255, 255, 255]
        return mosts

    def test_one_number_that_cannot_be(self):
        source = random.Random(6)
        for _ in range(150):
            numbers = numbers_of(*any_disks(source, 4))
            mosts = self.most_of_each(numbers)
            self.assertEqual(len(mosts), len(numbers))
            for offset, most in enumerate(mosts):
                least = [75, 1, 1, *[0] * len(mosts)][offset]
                for number in (0, 74, most + 1, 255):
                    if number <= 255 and not least <= number <= most:
                        self.assert_wrong(with_checksum([*numbers[:offset], number, *numbers[offset + 1:]]), offset)
                        self.assert_wrong([*numbers[:offset], number, 255], offset)

    def test_values_at_their_quotient_or_their_rest(self):
        for place in (7, 9, 13):
            cases = ((4, 0, place), (4, 232, place), (255, 255, place), (3, 232, place + 1), (3, 255, place + 1))
            for quotient, rest, offset in cases:
                numbers = numbers_of(("back", "keep", "used", 8), [1, 2], [(0, 3, 4, True)])
                numbers[place:place + 2] = [quotient, rest]
                self.assert_wrong(with_checksum(numbers), offset)
            for quotient, rest in ((3, 231), (2, 255), (0, 0)):
                numbers = numbers_of(("back", "keep", "used", 8), [1, 2], [(0, 3, 4, True)])
                numbers[place:place + 2] = [quotient, rest]
                self.assertEqual(told(load, with_checksum(numbers))[0], "value")

    def test_missing_numbers(self):
        source = random.Random(7)
        for _ in range(60):
            numbers = image_of(*any_disks(source))
            for many in range(len(numbers)):
                self.assert_wrong(numbers[:many], many)

    def test_wrong_checksums_and_superfluous_numbers(self):
        source = random.Random(8)
        for _ in range(60):
            numbers = image_of(*any_disks(source))
            for wrong in range(256):
                if wrong != numbers[-1]:
                    self.assert_wrong([*numbers[:-1], wrong], len(numbers) - 1)
            self.assert_wrong([*numbers[:-1], (numbers[-1] + 1) % 239, 0], len(numbers) - 1)
            for more in ([0], [255], [numbers[-1]], [75] * 9):
                self.assert_wrong([*numbers, *more], len(numbers))

    def test_a_number_put_in_or_left_out(self):
        source = random.Random(9)
        wrong = 0
        for _ in range(400):
            numbers = image_of(*any_disks(source))
            place = source.randrange(len(numbers))
            if source.random() < 0.5:
                changed = [*numbers[:place], source.choice([0, 1, 2, 75, source.randint(0, 255)]), *numbers[place:]]
            else:
                changed = numbers[:place] + numbers[place + 1:]
            offset = self.first_fault(changed)
            if offset is not None:
                wrong += 1
                self.assert_wrong(changed, offset)
        self.assertGreater(wrong, 350)

    def first_fault(self, numbers):
        """The offset of what is wrong first: the least one from which on no image goes on, or None."""
        if numbers[:1] != [75]:
            return 0
        for offset, most in ((1, 16), (2, 8)):
            if offset == len(numbers) or not 1 <= numbers[offset] <= most:
                return offset
        # Behind the end there are zeros, which can be anywhere.
        padded = numbers + [0] * 200
        mosts = self.most_of_each(padded)
        for offset, most in enumerate(mosts):
            if offset == len(numbers) or padded[offset] > most:
                return offset
        end = len(mosts)
        if numbers[:end + 1] != with_checksum(numbers[:end]):
            return end
        return end + 1 if len(numbers) > end + 1 else None

    def test_what_is_no_list_of_numbers(self):
        numbers = image_of(("back", "keep", "used", 8), [1, 2], [(0, 3, 4, True)])
        for wrong in [256, 1.0, *OTHER_KINDS]:
            for place in (0, 1, 8, len(numbers)):
                self.assertEqual(told(load, [*numbers[:place], wrong, *numbers[place:]]), ("InvalidCount", {}))
                # It comes ahead of all other errors.
                self.assertEqual(told(load, [0, *numbers[:place], wrong]), ("InvalidCount", {}))
        for thing in [tuple(numbers), {}, *OTHER_KINDS]:
            if not isinstance(thing, list):
                self.assertEqual(told(load, thing), ("InvalidCount", {}))
        self.assert_wrong([], 0)


class WholeTest(unittest.TestCase):
    def test_what_is_returned_may_be_modified(self):
        pair = Pair(2, 2, RULES)
        pair.write(0, 5)
        numbers = image(pair)
        loaded = load(numbers)
        text = repr(numbers)
        numbers.clear()
        self.assertEqual([repr(image(pair)), repr(image(loaded))], [text, text])

    def test_the_largest_calls_end(self):
        source = random.Random(10)
        for _ in range(50):
            slow = [source.randrange(1000) for _ in range(16)]
            fast = [(source.randrange(16), source.randrange(1000), source.randint(0, 65535), True) for _ in range(8)]
            numbers = image_of(any_rules(source), slow, fast)
            self.assertEqual(len(numbers), 7 + 2 * 16 + 6 * 8 + 1)
            self.assertEqual(load(numbers).counts[3], 8)


if __name__ == "__main__":
    unittest.main()

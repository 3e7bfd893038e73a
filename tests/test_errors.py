"""The error classes of the interface, also those that only later calls raise."""

import unittest

from keepbefore import errors

ATTRIBUTES = {
    "InvalidSize": (),
    "InvalidCell": (),
    "InvalidKept": (),
    "InvalidRules": ("part",),
    "InvalidRecipes": ("part", "place"),
    "InvalidBlock": (),
    "InvalidValue": (),
    "InvalidCount": (),
    "InvalidSlot": (),
    "InvalidWord": (),
    "InvalidStory": (),
    "InvalidRequests": ("index",),
    "InvalidPrices": ("index",),
    "InvalidPlan": ("index",),
    "PowerFailed": ("is_done",),
    "PowerOff": (),
    "PowerOn": (),
    "NoFastDisk": (),
    "HasFastDisk": (),
    "Unsettled": (),
    "Contradiction": (),
    "InvalidOperation": ("place",),
    "InvalidName": (),
    "UnknownName": (),
    "NotationError": ("row", "word"),
    "DecodeError": ("offset",),
}


class ErrorsTest(unittest.TestCase):
    def test_all_are_there_and_no_others(self):
        names = {name for name, thing in vars(errors).items() if isinstance(thing, type)}
        self.assertEqual(names, {"PairError", *ATTRIBUTES})

    def test_the_base_is_a_value_error(self):
        self.assertEqual(errors.PairError.__bases__, (ValueError,))

    def test_each_stands_straight_under_the_base(self):
        for name in ATTRIBUTES:
            with self.subTest(name):
                self.assertEqual(getattr(errors, name).__bases__, (errors.PairError,))

    def test_each_is_caught_as_the_base_and_as_a_value_error(self):
        for name, attributes in ATTRIBUTES.items():
            for base in (errors.PairError, ValueError):
                with self.subTest(name), self.assertRaises(base):
                    raise getattr(errors, name)(*range(len(attributes)))

    def test_none_is_caught_as_another_one(self):
        for name, attributes in ATTRIBUTES.items():
            error = getattr(errors, name)(*range(len(attributes)))
            for other in ATTRIBUTES:
                self.assertEqual(isinstance(error, getattr(errors, other)), name == other)

    def test_attributes_are_set_when_it_is_created(self):
        for name, attributes in ATTRIBUTES.items():
            numbers = [7 + at for at in range(len(attributes))]
            with self.subTest(name):
                error = getattr(errors, name)(*numbers)
                self.assertEqual(vars(error), dict(zip(attributes, numbers)))
                error = getattr(errors, name)(**dict(zip(attributes, numbers)))
                self.assertEqual(vars(error), dict(zip(attributes, numbers)))

    def test_power_failed_keeps_true_and_false(self):
        self.assertIs(errors.PowerFailed(True).is_done, True)
        self.assertIs(errors.PowerFailed(False).is_done, False)

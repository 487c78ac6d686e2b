"""[2]: the errors."""

import unittest

from steprows import errors
from steprows.errors import StepError

WITH = {
    "BadNumber": ("name",), "BadWeb": ("place",), "NoTie": ("first", "second"), "BadPlace": ("place",),
    "BadKind": ("kind",), "BadCounts": ("place",), "BadWord": ("place",), "BadTable": ("place",),
    "NotKept": ("walk",), "BadLot": ("place",), "BadFlow": ("kind",), "BadRow": ("place",),
    "TooMany": ("number",), "BadText": ("line",),
}
WITHOUT = ("Unfit", "NotFull", "NotLocal", "NotRing", "NotLoose", "NotRoomy", "NotJoined")


class TestErrors(unittest.TestCase):

    def test_each_keeps_what_it_was_made_with(self):
        for name, attributes in WITH.items():
            values = [f"value {number}" for number in range(len(attributes))]
            error = getattr(errors, name)(*values)
            self.assertEqual([getattr(error, attribute) for attribute in attributes], values, name)

    def test_those_without_attributes(self):
        for name in WITHOUT:
            self.assertEqual(vars(getattr(errors, name)()), {})
        StepError()

    def test_each_is_a_step_error_and_nothing_else_of_the_package(self):
        self.assertEqual(StepError.__bases__, (ValueError,))
        for name in tuple(WITH) + WITHOUT:
            self.assertEqual(getattr(errors, name).__bases__, (StepError,), name)

    def test_the_list_is_complete(self):
        found = [name for name, thing in vars(errors).items() if isinstance(thing, type)]
        self.assertEqual(sorted(found), sorted(tuple(WITH) + WITHOUT + ("StepError",)))

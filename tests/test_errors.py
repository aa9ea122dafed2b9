"""The classes of tidefold.errors (the interface, tidefold/errors.py)."""

import unittest

from tidefold import errors
from tidefold.errors import FlowError, LateRow, MarkGoesBack, NoSuchSource, NotThere, PlanError


class Errors(unittest.TestCase):
    def test_the_base_of_all_is_a_value_error(self):
        self.assertEqual(FlowError.__bases__, (ValueError,))

    def test_the_others_stand_directly_below_it(self):
        for kind in (PlanError, NoSuchSource, LateRow, NotThere, MarkGoesBack):
            self.assertEqual(kind.__bases__, (FlowError,))

    def test_all_are_defined_in_their_file(self):
        for kind in (FlowError, PlanError, NoSuchSource, LateRow, NotThere, MarkGoesBack):
            self.assertEqual(kind.__module__, errors.__name__)

    def test_a_plan_error_has_a_place_and_a_message(self):
        error = PlanError(7, "unexpected token")
        self.assertEqual(error.place, 7)
        self.assertEqual(error.message, "unexpected token")
        self.assertEqual(str(error), "unexpected token at 7")
        self.assertEqual(vars(error), {"place": 7, "message": "unexpected token"})

    def test_the_others_are_created_with_one_string(self):
        for kind in (FlowError, NoSuchSource, LateRow, NotThere, MarkGoesBack):
            self.assertEqual(str(kind("some words")), "some words")


if __name__ == "__main__":
    unittest.main()

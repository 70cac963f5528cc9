"""Point [3]: the errors, what they keep and what they stand under."""

import inspect
import unittest

from sureticks import errors
from sureticks.calls import Calls
from tests.samples import odd_values

KEPT = {
    "InvalidNumber": "value", "InvalidEdges": "value", "InvalidEdge": "value", "InvalidRun": "value",
    "InvalidTrace": "value", "InvalidTicks": "value", "InvalidMarks": "value", "InvalidLengths": "value",
    "InvalidWaits": "value", "InvalidQuestion": "value", "InvalidClaim": "value", "Undefined": "what",
    "NothingToUndo": "word",
}


def error_classes():
    return {name: getattr(errors, name) for name in KEPT}


class TestErrors(unittest.TestCase):
    def test_all_are_there_and_no_others(self):
        there = {name for name, thing in vars(errors).items() if inspect.isclass(thing)}
        self.assertEqual(there, set(KEPT) | {"TickError"})
        for name in there:
            self.assertEqual(getattr(errors, name).__module__, "sureticks.errors")

    def test_each_keeps_what_it_is_made_with(self):
        for name, made in error_classes().items():
            for value in odd_values():
                error = made(value)
                self.assertIs(getattr(error, KEPT[name]), value)

    def test_arguments_by_name(self):
        for name, made in error_classes().items():
            self.assertEqual(getattr(made(**{KEPT[name]: "run"}), KEPT[name]), "run")
            with self.assertRaises(TypeError):
                made()
            with self.assertRaises(TypeError):
                made("run", "run")

    def test_a_list_is_kept_itself(self):
        value = [1, [2]]
        error = errors.InvalidRun(value)
        value.append(3)
        self.assertIs(error.value, value)
        self.assertEqual(error.value, [1, [2], 3])

    def test_all_stand_under_tick_error_and_value_error(self):
        self.assertEqual(errors.TickError.__bases__, (ValueError,))
        for made in error_classes().values():
            self.assertTrue(issubclass(made, errors.TickError))
            for caught in (made, errors.TickError, ValueError):
                with self.assertRaises(caught):
                    raise made("sure")

    def test_no_error_stands_under_another(self):
        for name, made in error_classes().items():
            self.assertEqual(made.__bases__, (errors.TickError,))
            for other_name, other in error_classes().items():
                self.assertEqual(issubclass(made, other), name == other_name)

    def test_errors_are_shown_whatever_they_keep(self):
        for made in error_classes().values():
            for value in odd_values():
                self.assertIsInstance(str(made(value)), str)

    def test_errors_are_equal_to_nothing_else_and_not_iterable(self):
        for made in error_classes().values():
            self.assertNotEqual(made(1), 1)
            self.assertNotEqual(made(1), errors.TickError(1))
            with self.assertRaises(TypeError):
                iter(made(1))

    def test_raised_ones_are_caught_by_all_three(self):
        for caught in (errors.InvalidNumber, errors.TickError, ValueError):
            with self.assertRaises(caught) as held:
                Calls("many", ())
            self.assertEqual(held.exception.value, "many")
            self.assertIs(type(held.exception), errors.InvalidNumber)


if __name__ == "__main__":
    unittest.main()

"""The errors: their base class, and the field of BadTrace."""

import unittest

from membrane.errors import BadPolicy, BadProgram, BadState, BadTrace, MembraneError

OTHERS = (BadProgram, BadPolicy, BadState, BadTrace)


class ErrorsTest(unittest.TestCase):
    def test_the_base_class_is_a_value_error(self):
        self.assertTrue(issubclass(MembraneError, ValueError))
        self.assertIn(ValueError, MembraneError.__bases__)

    def test_all_others_are_under_the_base_class(self):
        for error in OTHERS:
            with self.subTest(error=error.__name__):
                self.assertTrue(issubclass(error, MembraneError))
                self.assertIsNot(error, MembraneError)

    def test_none_of_the_others_is_under_another(self):
        for error in OTHERS:
            for other in OTHERS:
                if error is not other:
                    with self.subTest(error=error.__name__, other=other.__name__):
                        self.assertFalse(issubclass(error, other))

    def test_they_are_made_without_arguments(self):
        for error in (BadProgram, BadPolicy, BadState):
            with self.subTest(error=error.__name__):
                with self.assertRaises(MembraneError) as caught:
                    raise error()
                self.assertIs(type(caught.exception), error)

    def test_bad_trace_has_its_place(self):
        for place in (0, 2, 1000):
            with self.assertRaises(BadTrace) as caught:
                raise BadTrace(place)
            self.assertEqual(caught.exception.place, place)
        self.assertEqual(BadTrace(place=3).place, 3)

    def test_bad_trace_is_not_made_without_a_place(self):
        with self.assertRaises(TypeError):
            BadTrace()


if __name__ == "__main__":
    unittest.main()

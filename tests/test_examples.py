"""The examples of the interface, word for word, each run on its own."""

import doctest
import unittest

VALUES = """
>>> from membrane.values import combined
>>> combined("+", ("text", "a"), ("text", "b")), combined("<", ("int", 1), ("bool", True))
(('value', ('text', 'ab')), ('raise', 'wrong kind'))
"""

PARENT = """
>>> from membrane.objects import perform
>>> heap = [("object", (("a", ("data", ("int", 1), False)),), ("none",), True), ("object", (), ("ref", 0), True)]
>>> perform(heap, 1, ("get", "a", ("ref", 1)))
('next', ('ref', 0), ('get', 'a', ('ref', 1)), True)
"""

PUT = """
>>> from membrane.objects import perform
>>> heap = [("object", (("a", ("data", ("int", 1), False)),), ("none",), True)]
>>> perform(heap, 0, ("put", "a", ("int", 2), ("ref", 0))), heap
(('value', ('none',)), [('object', (('a', ('data', ('int', 2), False)),), ('none',), True)])
"""

CLOSED = """
>>> from membrane.objects import perform
>>> perform([("object", (), ("none",), False)], 0, ("define", "a", ("data", ("int", 1), True)))
('raise', 'closed')
"""


class ExamplesTest(unittest.TestCase):
    def assert_holds(self, name, text):
        example = doctest.DocTestParser().get_doctest(text, {}, name, None, 0)
        self.assertTrue(example.examples)
        said = []
        result = doctest.DocTestRunner(verbose=False).run(example, out=said.append)
        self.assertEqual(result.failed, 0, "".join(said))

    def test_values(self):
        self.assert_holds("values", VALUES)

    def test_objects(self):
        for name, text in (("parent", PARENT), ("put", PUT), ("closed", CLOSED)):
            with self.subTest(name=name):
                self.assert_holds(name, text)


if __name__ == "__main__":
    unittest.main()

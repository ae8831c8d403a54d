"""The examples of the interface, word for word, each run on its own."""

import doctest
import unittest

from membrane.errors import BadProgram, BadTrace

VALUES = """
>>> from membrane.values import combined
>>> combined("+", ("text", "a"), ("text", "b")), combined("<", ("int", 1), ("bool", True))
(('value', ('text', 'ab')), ('raise', 'wrong kind'))
"""

PARENT = """
>>> from membrane.objects import perform
>>> heap = [("object", (("a", ("data", ("int", 1), False)),), ("none",), True), ("object", (), ("ref", 0), True)]
>>> perform(heap, 1, ("get", "a", ("ref", 1)))
('next', ('ref', 0), ('get', 'a', ('ref', 1)), True)
"""

PUT = """
>>> from membrane.objects import perform
>>> heap = [("object", (("a", ("data", ("int", 1), False)),), ("none",), True)]
>>> perform(heap, 0, ("put", "a", ("int", 2), ("ref", 0))), heap
(('value', ('none',)), [('object', (('a', ('data', ('int', 2), False)),), ('none',), True)])
"""

CLOSED = """
>>> from membrane.objects import perform
>>> perform([("object", (), ("none",), False)], 0, ("define", "a", ("data", ("int", 1), True)))
('raise', 'closed')
"""

PROGRAMS = """
>>> from membrane.programs import check_block
>>> check_block((("let", "x", ("name", "y")), ("while", ("name", "x"), ())))
raises BadProgram
"""

PLAIN = """
>>> from membrane.plain import Plain
>>> plain = Plain((), (("hide", "b"),))
>>> first = plain.run("right", (("let", "o", ("object", (("a", ("const", ("int", 5))), ("b", ("const", ("int", 6)))), ())),), 100)
>>> told = plain.hand("right", "o")
>>> second = plain.run("left", (("print", ("get", ("name", "o"), "a")), ("print", ("has", ("name", "o"), "b"))), 100)
>>> first, told, second, plain.outs
(('over', True, ('none',)), True, ('over', True, ('none',)), ['5\\nFalse\\n', ''])
"""

POLICIES = """
>>> from membrane.policies import asked
>>> asked((("hide", "a"),), 0, ("get", "a", ("none",))), asked((("only", 1, ("nocall",)),), 0, ("call", ("none",), ()))
(('answer', False, ('text', 'no such name')), ('go',))
"""


WORLD = """
>>> from membrane.world import World
>>> world = World((), ())
>>> world.begin("right", (("let", "o", ("object", (("a", ("const", ("int", 5))),), ())),))
>>> many = world.go(1000)
>>> told = world.hand("right", "o")
>>> world.begin("left", (("print", ("get", ("name", "o"), "a")),))
>>> many = world.go(1000)
>>> told, world.out("left"), world.trace()[2:]
(True, '5\\n', (('handed', 'right', 'o', ('right', 0, 'object')), ('turn', 'left'), ('request', 'left', 0, 0, ('get', 'a', ('right', 0, 'object'))), ('reply', True, ('int', 5)), ('end',)))
"""

TRACES = """
>>> from membrane.traces import check_trace
>>> check_trace((("turn", "left"), ("end",), ("end",)))
raises BadTrace(place=2)
"""

REPLAY = """
>>> from membrane.replay import Replay
>>> replay = Replay("left", (), (("run", (("print", ("const", ("int", 1))),)),), (("turn", "left"), ("end",)))
>>> many = replay.go(1000)
>>> replay.result(), replay.place()
(('same',), 2)
"""

DIFFERS = """
>>> from membrane.replay import Replay
>>> replay = Replay("left", (), (("run", (("print", ("const", ("int", 1))),)),), (("turn", "left"),))
>>> many = replay.go(1000)
>>> replay.result()
('differs', 1)
"""


class ExamplesTest(unittest.TestCase):
    def assert_holds(self, name, text):
        example = doctest.DocTestParser().get_doctest(text, {}, name, None, 0)
        self.assertTrue(example.examples)
        said = []
        result = doctest.DocTestRunner(verbose=False).run(example, out=said.append)
        self.assertEqual(result.failed, 0, "".join(said))

    def assert_raises(self, name, text, error, told=""):
        """The last line of the example raises the error, the lines ahead of it do not; told are its fields."""
        example = doctest.DocTestParser().get_doctest(text, {}, name, None, 0)
        names = {}
        for line in example.examples[:-1]:
            exec(line.source, names)
        with self.assertRaises(error) as caught:
            exec(example.examples[-1].source, names)
        self.assertEqual(example.examples[-1].want, f"raises {error.__name__}{told}\n")
        return caught.exception

    def test_values(self):
        self.assert_holds("values", VALUES)

    def test_objects(self):
        for name, text in (("parent", PARENT), ("put", PUT), ("closed", CLOSED)):
            with self.subTest(name=name):
                self.assert_holds(name, text)

    def test_programs(self):
        self.assert_raises("programs", PROGRAMS, BadProgram)

    def test_plain(self):
        self.assert_holds("plain", PLAIN)

    def test_world(self):
        self.assert_holds("world", WORLD)

    def test_traces(self):
        error = self.assert_raises("traces", TRACES, BadTrace, "(place=2)")
        self.assertEqual(error.place, 2)

    def test_replay(self):
        for name, text in (("replay", REPLAY), ("differs", DIFFERS)):
            with self.subTest(name=name):
                self.assert_holds(name, text)

    def test_policies(self):
        self.assert_holds("policies", POLICIES)


if __name__ == "__main__":
    unittest.main()

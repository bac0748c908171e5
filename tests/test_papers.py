"""Papers and denials."""

import unittest
from copy import deepcopy

from fourstones.papers import Denial, Paper, fixed


class Note(Paper):
    """A class of papers as other files make them."""

    def __init__(self, first, second):
        Paper.__init__(self, "note", first, second)


class Equal:
    def __eq__(self, other):
        return True


class PapersTest(unittest.TestCase):
    def test_example(self):
        note = Paper("note", [1, (2, [3])])
        told = [
            note.parts, bool(note), bool(Denial("no")), note == Denial("note", [1, (2, [3])]), fixed([[], {"a": [1]}]),
        ]
        self.assertEqual(told, [((1, (2, (3,))),), True, False, False, ((), {"a": [1]})])

    def test_word_and_parts(self):
        for made in (Paper, Denial):
            paper = made("word", 1, [2], "three", None, [[4, (5, [])]])
            self.assertEqual(paper.word, "word")
            self.assertEqual(paper.parts, (1, (2,), "three", None, ((4, (5, ())),)))
            self.assertIs(type(paper.parts[1]), tuple)
            self.assertIs(type(paper.parts[4][0][1][1]), tuple)
            self.assertEqual(made("alone").parts, ())
            self.assertEqual(made(word="named").word, "named")

    def test_true_or_false(self):
        self.assertIs(bool(Paper("no")), True)
        self.assertIs(bool(Paper("empty", [])), True)
        self.assertIs(bool(Denial("yes", 1)), False)
        self.assertIs(bool(Note(0, 0)), True)
        self.assertTrue(issubclass(Denial, Paper))
        self.assertEqual((Denial.__bases__, Paper.__bases__), ((Paper,), (object,)))

    def test_equal(self):
        for made in (Paper, Denial):
            self.assertTrue(made("a", [1, [2]], 3) == made("a", (1, (2,)), 3))
            self.assertFalse(made("a", [1, [2]], 3) != made("a", (1, (2,)), 3))
            self.assertTrue(made("a", 1) == made("a", True))
            for other in (made("b", 1), made("a", 2), made("a"), made("a", 1, 1), made("a", [1]), made("a", "1")):
                self.assertFalse(made("a", 1) == other)
                self.assertTrue(made("a", 1) != other)

    def test_unlike_classes(self):
        self.assertFalse(Paper("a", 1) == Denial("a", 1))
        self.assertFalse(Denial("a", 1) == Paper("a", 1))
        self.assertFalse(Note(1, 2) == Paper("note", 1, 2))
        self.assertFalse(Paper("note", 1, 2) == Note(1, 2))
        self.assertTrue(Note(1, [2]) == Note(1, (2,)))
        for value in (None, 1, "a", ("a",), ["a", 1], {}, Paper, Equal()):
            for paper in (Paper("a"), Denial("a")):
                self.assertIs(paper == value, False)
                self.assertIs(paper != value, True)

    def test_methods_stand_in_their_classes(self):
        for made in (Paper, Denial):
            self.assertIn("__eq__", vars(made))

    def test_fixed(self):
        self.assertEqual(fixed([1, [2, (3, [4, []])]]), (1, (2, (3, (4, ())))))
        self.assertEqual(fixed(()), ())
        for value in (None, True, 0, 10 ** 6000, "ab", b"ab", {"a": [1]}, {1}, 1.5, object()):
            self.assertIs(fixed(value), value)
        self.assertIs(fixed(value=[True])[0], True)
        inner = {"a": [1]}
        self.assertIs(fixed([inner])[0], inner)
        deep = []
        for _ in range(29):
            deep = [deep]
        told = fixed(deep)
        for _ in range(29):
            self.assertIs(type(told), tuple)
            told = told[0]
        self.assertEqual(told, ())

    def test_what_was_passed_stays(self):
        value = [1, [2, (3, [4])], {"a": [5]}]
        kept = deepcopy(value)
        paper = Paper("p", value)
        fixed(value)
        self.assertEqual(value, kept)
        value[1].append(9)
        value.append(9)
        self.assertEqual(paper.parts, ((1, (2, (3, (4,))), {"a": [5]}),))


if __name__ == "__main__":
    unittest.main()

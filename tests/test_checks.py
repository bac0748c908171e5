"""The checks of any value."""

import unittest
from copy import deepcopy

from fourstones.checks import is_cell, is_integer, is_side, is_within

FAR = 10 ** 6
GREAT = 10 ** 6000
NONE_AT_ALL = (None, True, False, "", "1", b"1", [], (), [1], (1,), {}, {1: 2}, 1.0, object(), len)


class ChecksTest(unittest.TestCase):
    def test_example(self):
        told = [
            is_integer(True), is_within(3, None, 3), is_cell([2, -1]), is_cell((2, 10 ** 7)), is_cell((1, True)),
            is_side(3), is_side(4),
        ]
        self.assertEqual(told, [False, True, True, False, False, True, False])

    def test_integers(self):
        for value in (0, 1, -1, FAR, FAR + 1, GREAT, -GREAT):
            self.assertIs(is_integer(value), True)
        for value in NONE_AT_ALL:
            self.assertIs(is_integer(value), False, value)

    def test_within(self):
        rows = (
            (0, 0, 0, True), (0, 1, None, False), (1, 1, None, True), (1, None, 1, True), (2, None, 1, False),
            (5, 1, 5, True), (6, 1, 5, False), (0, 1, 5, False), (3, 5, 1, False), (-2, -3, -1, True),
            (GREAT, None, None, True), (-GREAT, None, 0, True), (GREAT, 0, None, True), (GREAT, 0, GREAT - 1, False),
            (GREAT, GREAT, GREAT, True), (0, None, 0, True), (0, 0, None, True), (-1, 0, None, False),
        )
        for value, least, most, told in rows:
            self.assertIs(is_within(value, least, most), told, (least, most))
            self.assertIs(is_within(value=value, least=least, most=most), told)

    def test_within_of_no_integer(self):
        for value in NONE_AT_ALL:
            for least, most in ((None, None), (0, None), (None, 1), (0, 1)):
                self.assertIs(is_within(value, least, most), False, value)

    def test_cells(self):
        for cell in ((0, 0), (FAR, -FAR), (-FAR, FAR), (3, -4)):
            self.assertIs(is_cell(cell), True)
            self.assertIs(is_cell(list(cell)), True)
        wrong = (
            (FAR + 1, 0), (0, FAR + 1), (-FAR - 1, 0), (0, -FAR - 1), (GREAT, 0), (0, -GREAT), (True, 0), (0, False),
            ("0", 0), (0, None), (0, 1.0), (0,), (0, 0, 0), ((0, 0),), ((0, 0), (0, 0)), ([], []),
        )
        for value in wrong:
            self.assertIs(is_cell(value), False)
            self.assertIs(is_cell(list(value)), False)
        for value in (*NONE_AT_ALL, {0: 1, 1: 2}, {1, 2}, "12", b"12", range(2), 12):
            self.assertIs(is_cell(value), False)

    def test_sides(self):
        self.assertEqual([is_side(value) for value in range(-2, 6)], [False, False, True, True, True, True, False, False])
        for value in (*NONE_AT_ALL, GREAT, -GREAT, "0", [0]):
            self.assertIs(is_side(value), False)

    def test_what_was_passed_stays(self):
        values = [[1, 2], [[1], 2], [True], [], (1, [2])]
        kept = deepcopy(values)
        for value in values:
            for check in (is_integer, is_cell, is_side):
                check(value=value)
            is_within(value, 0, 1)
        self.assertEqual(values, kept)


if __name__ == "__main__":
    unittest.main()

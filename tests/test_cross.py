"""cross: how two pieces meet (promise 2), and what it answers where there are no two pieces."""

import unittest
from itertools import product

from drawnglass.desk import cross, judge
from tests.texts import LARGEST_NUMBER, grid_pieces, shared_span, text_of

APART = {
    "far from one another": ((0, 0, 4, 4), (10, 0, 14, 4)),
    "beside one another": ((0, 0, 4, 2), (0, 1, 4, 3)),
    "level, beside one another": ((0, 0, 4, 0), (0, 1, 4, 1)),
    "on one line with a gap": ((0, 0, 2, 1), (4, 2, 6, 3)),
    "on one level line with a gap": ((0, 5, 4, 5), (5, 5, 9, 5)),
    "on one upright line with a gap": ((5, 0, 5, 4), (5, 5, 5, 9)),
    "the whole line of one goes through the other": ((0, 0, 4, 4), (6, 8, 8, 6)),
    "one's end close to the other": ((0, 0, 4095, 4094), (2048, 2048, 0, 4095)),
    "one's end on the other's whole line": ((0, 0, 2, 2), (3, 3, 9, 0)),
    "one within the square round the other": ((0, 0, 9, 9), (5, 3, 8, 1)),
    "in the grid's corners": ((0, 0, 0, 1), (4095, 4095, 4095, 4094)),
}

AT_ENDS = {
    "a corner": ((0, 0, 4, 0), (4, 0, 4, 4)),
    "aslant": ((0, 0, 4, 2), (4, 2, 0, 3)),
    "on one line": ((0, 0, 2, 1), (2, 1, 6, 3)),
    "on one level line": ((0, 5, 4, 5), (4, 5, 9, 5)),
    "on one upright line": ((5, 0, 5, 4), (5, 4, 5, 9)),
    "a sharp bend": ((0, 0, 4095, 1), (4095, 1, 0, 1)),
    "at the grid's corner": ((4095, 4095, 0, 4095), (4095, 4095, 4095, 0)),
}

BADLY = {
    "they cross": ((0, 0, 4, 4), (0, 4, 4, 0)),
    "they cross at halves": ((0, 0, 1, 1), (0, 1, 1, 0)),
    "they cross at thirds": ((0, 0, 3, 1), (1, 0, 2, 1)),
    "they cross at no whole coordinates": ((0, 0, 3, 1), (0, 1, 1, 0)),
    "they cross over the whole grid": ((0, 0, 4095, 4095), (0, 4095, 4095, 0)),
    "they cross far out": ((0, 0, 4095, 4094), (4095, 4095, 4094, 4092)),
    "one lies over the other in part": ((0, 0, 6, 3), (4, 2, 10, 5)),
    "one lies over the other in part, upright": ((5, 0, 5, 6), (5, 5, 5, 9)),
    "one lies within the other": ((0, 0, 9, 0), (3, 0, 5, 0)),
    "one lies within the other from its first end": ((0, 0, 9, 0), (0, 0, 5, 0)),
    "one lies within the other from its second end": ((0, 0, 9, 9), (9, 9, 5, 5)),
    "the same two ends": ((0, 0, 5, 7), (0, 0, 5, 7)),
    "the same two ends in the other order": ((0, 0, 5, 7), (5, 7, 0, 0)),
    "an end in the other's midst": ((0, 0, 6, 4), (3, 2, 9, 0)),
    "an end in the other's midst, level": ((0, 3, 9, 3), (4, 3, 4, 9)),
    "an end in the other's midst, upright": ((5, 0, 5, 9), (5, 3, 8, 3)),
}


def turned(ends):
    return ends[2:] + ends[:2]


# All ways to hand in the two pieces: either one first, each from either end.
def orders(one, other):
    for first, second in ((one, other), (other, one)):
        for a, b in product((first, turned(first)), (second, turned(second))):
            yield a + b


# How two pieces meet, from the points that they share.
def meeting_by_definition(one, other):
    span = shared_span(one, other)
    if span is None:
        return 0
    return 1 if span[0] == span[1] and span[0] in one and span[0] in other else 2


class Meetings(unittest.TestCase):
    def test_tables(self):
        for wanted, table in ((0, APART), (1, AT_ENDS), (2, BADLY)):
            for name, (one, other) in table.items():
                for numbers in orders(one, other):
                    with self.subTest(name=name, numbers=numbers):
                        self.assertEqual(cross(*numbers), [wanted])

    def test_the_four_ways_to_share_one_end(self):
        self.assertEqual(cross(5, 5, 0, 0, 5, 5, 9, 0), [1])
        self.assertEqual(cross(5, 5, 0, 0, 9, 0, 5, 5), [1])
        self.assertEqual(cross(0, 0, 5, 5, 5, 5, 9, 0), [1])
        self.assertEqual(cross(0, 0, 5, 5, 9, 0, 5, 5), [1])

    def test_the_four_ways_to_share_one_end_on_one_line(self):
        self.assertEqual(cross(5, 5, 0, 0, 5, 5, 9, 9), [1])
        self.assertEqual(cross(5, 5, 0, 0, 9, 9, 5, 5), [1])
        self.assertEqual(cross(0, 0, 5, 5, 5, 5, 9, 9), [1])
        self.assertEqual(cross(0, 0, 5, 5, 9, 9, 5, 5), [1])

    def test_every_two_pieces_of_a_small_grid(self):
        pieces = grid_pieces(3)
        for one, other in product(pieces, pieces):
            wanted = [meeting_by_definition(one, other)]
            self.assertEqual(cross(*one[0], *one[1], *other[0], *other[1]), wanted, (one, other))

    def test_pieces_of_a_wider_grid_and_the_same_answer_changed_round(self):
        pieces = [piece for piece in grid_pieces(6) if piece[0] < piece[1]][::9]
        for one, other in product(pieces, pieces):
            wanted = [meeting_by_definition(one, other)]
            for numbers in orders(one[0] + one[1], other[0] + other[1]):
                self.assertEqual(cross(*numbers), wanted, numbers)

    def test_large_coordinates(self):
        # The same small grid in the far corner, its pieces as long as they may be.
        pieces = [((0, 4095 - x), (4095, 4095 - y)) for x, y in product(range(3), repeat=2)]
        pieces += [((4095 - x, 4095), (4094 - y, 0)) for x, y in product(range(2), repeat=2)]
        for one, other in product(pieces, pieces):
            wanted = [meeting_by_definition(one, other)]
            self.assertEqual(cross(*one[0], *one[1], *other[0], *other[1]), wanted, (one, other))

    def test_badly_just_if_no_drawing_has_both(self):
        for table in (APART, AT_ENDS, BADLY):
            for one, other in table.values():
                strokes = [[ends[:2], ends[2:]] for ends in (one, other)]
                self.assertEqual(cross(*one, *other) == [2], judge(text_of(strokes)) == [-6, 5, 2, 1])


class NoPieces(unittest.TestCase):
    def test_each_number_above_the_largest_coordinate(self):
        for numbers in ((1, 2, 3, 5, 4, 6, 9, 9), (0, 0, 4, 4, 0, 4, 4, 0), (0, 0, 4, 4, 4, 4, 9, 0), (0, 0, 1, 1) * 2):
            self.assertNotEqual(cross(*numbers), [3])
            for place in range(8):
                for large in (4096, 4097, 65536, LARGEST_NUMBER):
                    wrong = list(numbers)
                    wrong[place] = large
                    self.assertEqual(cross(*wrong), [3])

    def test_each_number_at_the_largest_coordinate(self):
        for place in range(8):
            numbers = [1, 2, 3, 5, 4, 6, 9, 9]
            numbers[place] = 4095
            self.assertNotEqual(cross(*numbers), [3])
        self.assertEqual(cross(4095, 4095, 4095, 0, 0, 4095, 4095, 4095), [1])

    def test_all_numbers_too_large(self):
        self.assertEqual(cross(*[4096] * 8), [3])
        self.assertEqual(cross(*[LARGEST_NUMBER] * 8), [3])
        self.assertEqual(cross(4096, 4096, 5000, 5000, 4096, 5000, 5000, 4096), [3])

    def test_the_two_ends_of_one_piece_are_one(self):
        # Apart from the other piece, at its first and its second end, and in its midst.
        for x, y in ((9, 0), (0, 0), (4, 4), (2, 2)):
            self.assertEqual(cross(x, y, x, y, 0, 0, 4, 4), [3])
            self.assertEqual(cross(0, 0, 4, 4, x, y, x, y), [3])

    def test_the_two_ends_of_both_are_one(self):
        self.assertEqual(cross(*[0] * 8), [3])
        self.assertEqual(cross(1, 2, 1, 2, 3, 4, 3, 4), [3])

    def test_ends_that_are_alike_but_not_one(self):
        self.assertEqual(cross(3, 3, 3, 4, 8, 8, 9, 8), [0])
        self.assertEqual(cross(3, 4, 4, 3, 8, 9, 9, 8), [0])


if __name__ == "__main__":
    unittest.main()

"""at: the first piece on which a point lies, exactly (promise 4), and its refusals."""

import unittest
from fractions import Fraction

from drawnglass.desk import at
from tests.texts import LARGEST_NUMBER, MANY_DRAWINGS, NO_DRAWINGS, TOO_LONG, pieces_by_hand, rungs, star, text_of

LEVEL = text_of([[(3, 5), (9, 5)]])
UPRIGHT = text_of([[(5, 9), (5, 3)]])
ASLANT = text_of([[(2, 10), (8, 1)]])


# Whether a point lies on a piece, from the definition: one part of the way goes there in x and y both.
def lies_on_by_definition(point, piece):
    (ax, ay), (bx, by) = piece
    x, y = point
    way = Fraction(x - ax, bx - ax) if ax != bx else Fraction(y - ay, by - ay)
    return 0 <= way <= 1 and (ax + way * (bx - ax), ay + way * (by - ay)) == point


class OnePiece(unittest.TestCase):
    def test_level(self):
        for x in range(12):
            self.assertEqual(at(x, 5, LEVEL), [0] if 3 <= x <= 9 else [-5])
            self.assertEqual(at(x, 4, LEVEL), [-5])
            self.assertEqual(at(x, 6, LEVEL), [-5])

    def test_upright(self):
        for y in range(12):
            self.assertEqual(at(5, y, UPRIGHT), [0] if 3 <= y <= 9 else [-5])
            self.assertEqual(at(4, y, UPRIGHT), [-5])
            self.assertEqual(at(6, y, UPRIGHT), [-5])

    def test_aslant(self):
        on = [(2, 10), (4, 7), (6, 4), (8, 1)]
        for x in range(14):
            for y in range(14):
                self.assertEqual(at(x, y, ASLANT), [0] if (x, y) in on else [-5], (x, y))

    def test_on_its_line_but_behind_an_end(self):
        self.assertEqual(at(0, 13, ASLANT), [-5])
        self.assertEqual(at(2, 5, LEVEL), [-5])
        self.assertEqual(at(10, 5, LEVEL), [-5])
        self.assertEqual(at(5, 2, UPRIGHT), [-5])
        self.assertEqual(at(5, 10, UPRIGHT), [-5])

    def test_each_direction(self):
        for dx, dy in ((2, 0), (0, 2), (-2, 0), (0, -2), (2, 4), (-4, 2), (-2, -4), (4, -2)):
            text = text_of([[(50, 50), (50 + dx, 50 + dy)]])
            self.assertEqual(at(50, 50, text), [0])
            self.assertEqual(at(50 + dx, 50 + dy, text), [0])
            self.assertEqual(at(50 + dx // 2, 50 + dy // 2, text), [0])
            self.assertEqual(at(50 + 2 * dx, 50 + 2 * dy, text), [-5])
            self.assertEqual(at(50 - dx, 50 - dy, text), [-5])
            self.assertEqual(at(50 + dy, 50 - dx, text), [-5])

    def test_just_beside_a_long_piece(self):
        # The point is off the line by less than a thousandth of the grid's step.
        text = text_of([[(0, 0), (4095, 4094)]])
        self.assertEqual(at(0, 0, text), [0])
        self.assertEqual(at(4095, 4094, text), [0])
        for x in (1, 2, 2047, 2048, 4093, 4094):
            self.assertEqual(at(x, x, text), [-5])
            self.assertEqual(at(x, x - 1, text), [-5])

    def test_the_midst_of_a_long_piece(self):
        text = text_of([[(1, 0), (4095, 4092)]])
        self.assertEqual(at(2048, 2046, text), [0])
        self.assertEqual(at(2048, 2047, text), [-5])
        text = text_of([[(4095, 1), (1, 4095)]])
        self.assertEqual(at(2048, 2048, text), [0])
        self.assertEqual(at(2049, 2048, text), [-5])

    def test_a_square_round_the_piece_is_not_the_piece(self):
        text = text_of([[(0, 0), (9, 9)]])
        self.assertEqual(at(9, 0, text), [-5])
        self.assertEqual(at(0, 9, text), [-5])
        self.assertEqual(at(4, 5, text), [-5])
        self.assertEqual(at(5, 5, text), [0])


class SeveralPieces(unittest.TestCase):
    def test_the_first_piece_of_a_joint_is_told(self):
        text = text_of([[(0, 9), (3, 9)], [(5, 5), (0, 0)], [(9, 0), (5, 5), (0, 9)]])
        self.assertEqual(at(5, 5, text), [1])
        self.assertEqual(at(0, 9, text), [0])
        self.assertEqual(at(9, 0, text), [2])

    def test_the_first_of_eight(self):
        self.assertEqual(at(100, 100, text_of(rungs(2) + star(8))), [2])
        self.assertEqual(at(101, 99, text_of(rungs(2) + star(8))), [9])

    def test_each_piece_of_64(self):
        text = text_of(rungs(64))
        for y in (0, 1, 31, 62, 63):
            self.assertEqual(at(2, y, text), [y])
        self.assertEqual(at(2, 64, text), [-5])
        self.assertEqual(at(6, 3, text), [-5])

    def test_every_point_near_the_pieces_of_many_drawings(self):
        for strokes in MANY_DRAWINGS[::2]:
            text = text_of(strokes)
            pieces = pieces_by_hand(strokes)
            near = []
            for (ax, ay), (bx, by) in pieces[::3]:
                near += [(ax, ay), (bx, by), ((ax + bx) // 2, (ay + by) // 2), (ax, by), (min(ax + 1, 4095), ay)]
            for point in near:
                on = [k for k in range(len(pieces)) if lies_on_by_definition(point, pieces[k])]
                self.assertEqual(at(*point, text), on[:1] or [-5], (point, strokes))

    def test_every_point_of_a_small_grid(self):
        strokes = MANY_DRAWINGS[8]
        text = text_of(strokes)
        pieces = pieces_by_hand(strokes)
        for x in range(6):
            for y in range(6):
                on = [k for k in range(len(pieces)) if lies_on_by_definition((x, y), pieces[k])]
                self.assertEqual(at(x, y, text), on[:1] or [-5], (x, y))


class Refusals(unittest.TestCase):
    def test_coordinates_at_and_above_the_largest(self):
        text = text_of([[(0, 4095), (4095, 4095), (4095, 0)]])
        self.assertEqual(at(4095, 4095, text), [0])
        self.assertEqual(at(4095, 0, text), [1])
        self.assertEqual(at(4094, 4094, text), [-5])
        for large in (4096, 4097, 65536, LARGEST_NUMBER):
            self.assertEqual(at(large, 0, text), [-1])
            self.assertEqual(at(0, large, text), [-1])
            self.assertEqual(at(large, large, text), [-1])
            self.assertEqual(at(large, 4095, text), [-1])
            self.assertEqual(at(4095, large, text), [-1])

    def test_no_drawings_text(self):
        for text in NO_DRAWINGS:
            for x, y in ((0, 0), (4095, 4095), (4096, 0), (0, 4096), (LARGEST_NUMBER, LARGEST_NUMBER)):
                self.assertEqual(at(x, y, text), [-6])

    def test_too_long(self):
        for text in TOO_LONG:
            for x, y in ((0, 0), (4095, 4095), (4096, 0), (0, 4096), (LARGEST_NUMBER, LARGEST_NUMBER)):
                self.assertEqual(at(x, y, text), [-2])


if __name__ == "__main__":
    unittest.main()

"""size: strokes, pieces, joints and parts (promises 2 and 3), and its refusals."""

import unittest

from drawnglass.desk import judge, size
from drawnglass.drawing import degree, joints_of, least_mates, pieces_of
from tests.texts import bytes_of, grown_drawing, parts_by_walking, rungs, star, text_of

SQUARE = [(0, 0), (9, 0), (9, 9), (0, 9), (0, 0)]

# Each row: strokes, and how many strokes, pieces, joints, parts.
DRAWINGS = (
    ([[(0, 0), (1, 0)]], [1, 1, 2, 1]),
    ([[(0, 0), (9, 0), (9, 9), (20, 3)]], [1, 3, 4, 1]),
    ([SQUARE], [1, 4, 4, 1]),
    ([[(0, 0), (9, 0), (9, 9), (0, 9), (0, 0), (5, 5)]], [1, 5, 5, 1]),
    ([[(0, 0), (4, 0)], [(0, 8), (4, 8)]], [2, 2, 4, 2]),
    ([[(0, 0), (4, 0)], [(4, 0), (8, 0)]], [2, 2, 3, 1]),
    ([[(0, 0), (5, 5)], [(5, 5), (9, 0)], [(5, 5), (5, 9)]], [3, 3, 4, 1]),
    ([[(1, 2), (2, 1)], [(3, 4), (4, 3)]], [2, 2, 4, 2]),
    ([SQUARE, [(3, 3), (6, 3), (6, 6), (3, 3)]], [2, 7, 7, 2]),
    (star(8), [8, 8, 9, 1]),
    (star(8) + star(8, (200, 100)), [16, 16, 18, 2]),
    (rungs(64), [64, 64, 128, 64]),
    ([[(x, x % 2) for x in range(65)]], [1, 64, 65, 1]),
)

# Strokes that hang together only through what comes later: two or three parts become one.
LATE = (
    (rungs(2) + [[(5, 0), (5, 1)]], [3, 3, 4, 1]),
    (rungs(3) + [[(5, 0), (5, 1), (5, 2)]], [4, 5, 6, 1]),
    (rungs(4) + [[(5, 2), (5, 3)], [(5, 0), (5, 1)]], [6, 6, 8, 2]),
    (rungs(4) + [[(5, 2), (5, 3)], [(5, 0), (5, 1)], [(0, 1), (0, 2)]], [7, 7, 8, 1]),
)


class Sizes(unittest.TestCase):
    def test_drawings(self):
        for strokes, wanted in DRAWINGS:
            with self.subTest(strokes=strokes):
                self.assertEqual(size(text_of(strokes)), [0] + wanted)

    def test_parts_that_come_together_late(self):
        for strokes, wanted in LATE:
            with self.subTest(strokes=strokes):
                self.assertEqual(size(text_of(strokes)), [0] + wanted)

    def test_the_order_of_strokes_and_points_does_not_matter(self):
        for strokes, wanted in DRAWINGS:
            backwards = [list(reversed(points)) for points in reversed(strokes)]
            self.assertEqual(size(text_of(backwards)), [0] + wanted)

    def test_the_name_does_not_matter(self):
        self.assertEqual(size(text_of([SQUARE], "Z")), size(text_of([SQUARE], "abcdefghijkl")))

    def test_grown_drawings(self):
        for seed in range(40):
            strokes = grown_drawing(seed, (5, 12, 60, 4096)[seed % 4], 64)
            joints = {point for piece in strokes for point in piece}
            wanted = [0, len(strokes), len(strokes), len(joints), len(parts_by_walking(strokes))]
            self.assertEqual(judge(text_of(strokes)), [0])
            self.assertEqual(size(text_of(strokes)), wanted, seed)

    def test_grown_drawings_are_not_all_alike(self):
        kinds = {tuple(size(text_of(grown_drawing(seed, 12, 64)))) for seed in range(1, 40, 4)}
        self.assertGreater(len(kinds), 5)
        self.assertTrue(any(row[4] > 1 and row[3] < 2 * row[2] for row in kinds))


class Refusals(unittest.TestCase):
    def test_no_drawings_text_is_one_number(self):
        for words in (
            "", "sign A", "sign A\n", "sign A\nstroke 0,0\n", "sign A\nstroke 0,0 4096,0\n", "sign A\nstroke 0,0 0,0\n",
            "sign A\nstroke 0,0 4,4 4,0 0,4\n", "sign A\nstroke 0,0 1,0\nx",
        ):
            with self.subTest(words=words):
                self.assertEqual(size(bytes_of(words)), [-6])
        self.assertEqual(size(text_of(rungs(65))), [-6])
        self.assertEqual(size(text_of(star(9))), [-6])

    def test_too_long(self):
        self.assertEqual(size([10] * 65536), [-6])
        self.assertEqual(size([10] * 65537), [-2])
        text = text_of([SQUARE])
        self.assertEqual(size(text + [10] * (65536 - len(text))), [-6])
        self.assertEqual(size(text + [10] * (65537 - len(text))), [-2])


class JointsAndParts(unittest.TestCase):
    def test_joints_are_in_order_of_y_then_x(self):
        pieces = pieces_of([[(9, 0), (0, 5), (3, 0)], [(7, 5), (9, 0)]])
        self.assertEqual(joints_of(pieces), [(3, 0), (9, 0), (0, 5), (7, 5)])

    def test_all_degrees_together_are_twice_the_pieces(self):
        for strokes, wanted in DRAWINGS:
            pieces = pieces_of(strokes)
            degrees = [degree(point, pieces) for point in joints_of(pieces)]
            self.assertEqual(sum(degrees), 2 * len(pieces))
            self.assertTrue(all(1 <= number <= 8 for number in degrees))

    def test_each_piece_is_in_the_part_of_its_least_piece(self):
        pieces = pieces_of(rungs(4) + [[(5, 2), (5, 3)], [(5, 0), (5, 1)], [(0, 1), (0, 2)]])
        self.assertEqual(least_mates(pieces[:4]), [0, 1, 2, 3])
        self.assertEqual(least_mates(pieces[:5]), [0, 1, 2, 2, 2])
        self.assertEqual(least_mates(pieces[:6]), [0, 0, 2, 2, 2, 0])
        self.assertEqual(least_mates(pieces), [0] * 7)


if __name__ == "__main__":
    unittest.main()

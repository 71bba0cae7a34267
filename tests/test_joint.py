"""joint: where joints are, how they are numbered, and their degrees (promise 2), and its refusals."""

import unittest

from drawnglass.desk import joint, piece, size
from tests.texts import LARGEST_NUMBER, MANY_DRAWINGS, NO_DRAWINGS, TOO_LONG, pieces_by_hand, rungs, star, text_of


def joints_told(text):
    return [joint(number, text) for number in range(size(text)[3])]


class Order(unittest.TestCase):
    def test_the_same_y(self):
        text = text_of([[(10, 5), (7, 5)], [(2, 5), (100, 6), (3, 5)]])
        self.assertEqual(joints_told(text), [[0, 2, 5, 1], [0, 3, 5, 1], [0, 7, 5, 1], [0, 10, 5, 1], [0, 100, 6, 2]])

    def test_the_same_x(self):
        text = text_of([[(5, 10), (5, 7), (5, 2)], [(5, 100), (5, 3000)]])
        self.assertEqual(
            joints_told(text), [[0, 5, 2, 1], [0, 5, 7, 2], [0, 5, 10, 1], [0, 5, 100, 1], [0, 5, 3000, 1]]
        )

    def test_y_comes_before_x(self):
        text = text_of([[(0, 9), (9, 0)], [(4095, 0), (4094, 1)]])
        self.assertEqual(joints_told(text), [[0, 9, 0, 1], [0, 4095, 0, 1], [0, 4094, 1, 1], [0, 0, 9, 1]])

    def test_the_order_goes_by_numbers_not_by_digits(self):
        text = text_of([[(10, 10), (9, 9)], [(9, 10), (0, 100)]])
        self.assertEqual(joints_told(text), [[0, 9, 9, 1], [0, 9, 10, 1], [0, 10, 10, 1], [0, 0, 100, 1]])

    def test_the_order_of_strokes_does_not_matter(self):
        for strokes in MANY_DRAWINGS[::2]:
            backwards = [list(reversed(points)) for points in reversed(strokes)]
            self.assertEqual(joints_told(text_of(strokes)), joints_told(text_of(backwards)))


class Degrees(unittest.TestCase):
    def test_a_joint_that_several_strokes_share(self):
        text = text_of([[(0, 0), (5, 5)], [(9, 0), (5, 5), (5, 9)], [(5, 5), (9, 9)]])
        self.assertEqual(
            joints_told(text), [[0, 0, 0, 1], [0, 9, 0, 1], [0, 5, 5, 4], [0, 5, 9, 1], [0, 9, 9, 1]]
        )

    def test_a_stroke_that_closes_on_itself(self):
        text = text_of([[(0, 0), (4, 0), (0, 4), (0, 0)]])
        self.assertEqual(joints_told(text), [[0, 0, 0, 2], [0, 4, 0, 2], [0, 0, 4, 2]])

    def test_degrees_from_1_to_8(self):
        for many in range(1, 9):
            arms = [points[::-1] if number % 2 else points for number, points in enumerate(star(many))]
            told = joints_told(text_of(arms))
            self.assertEqual(len(told), many + 1)
            self.assertIn([0, 100, 100, many], told)
            self.assertEqual(sorted(row[3] for row in told), [1] * many + [many])

    def test_all_degrees_together_are_twice_the_pieces(self):
        for strokes in MANY_DRAWINGS:
            text = text_of(strokes)
            self.assertEqual(sum(row[3] for row in joints_told(text)), 2 * size(text)[2])

    def test_every_joint_of_many_drawings(self):
        for strokes in MANY_DRAWINGS:
            points = [point for ends in pieces_by_hand(strokes) for point in ends]
            wanted = [[0, x, y, points.count((x, y))] for y, x in sorted({(y, x) for x, y in points})]
            self.assertEqual(joints_told(text_of(strokes)), wanted)

    def test_each_joint_is_told_by_as_many_pieces_as_its_degree(self):
        for strokes in MANY_DRAWINGS[::2]:
            text = text_of(strokes)
            told = [number for k in range(size(text)[2]) for number in piece(k, text)[5:]]
            for number, row in enumerate(joints_told(text)):
                self.assertEqual(told.count(number), row[3])


class Refusals(unittest.TestCase):
    def test_the_first_and_the_last_number_and_those_behind(self):
        text = text_of(rungs(64))
        self.assertEqual(joint(0, text), [0, 0, 0, 1])
        self.assertEqual(joint(127, text), [0, 5, 63, 1])
        self.assertEqual(joint(128, text), [-4])
        self.assertEqual(joint(LARGEST_NUMBER, text), [-4])
        self.assertEqual(joint(2, text_of([[(0, 0), (1, 0)]])), [-4])

    def test_there_may_be_a_piece_of_that_number_and_no_joint(self):
        # A triangle and a point within it that is joined to its corners: 6 pieces, 4 joints.
        strokes = [[(0, 0), (90, 0), (0, 90), (0, 0), (20, 20), (90, 0)], [(20, 20), (0, 90)]]
        self.assertEqual(joint(3, text_of(strokes)), [0, 0, 90, 3])
        self.assertEqual(piece(4, text_of(strokes))[0], 0)
        self.assertEqual(joint(4, text_of(strokes)), [-4])

    def test_no_drawings_text(self):
        for text in NO_DRAWINGS:
            for number in (0, 1, 128, LARGEST_NUMBER):
                self.assertEqual(joint(number, text), [-6])

    def test_too_long(self):
        for text in TOO_LONG:
            for number in (0, 1, 128, LARGEST_NUMBER):
                self.assertEqual(joint(number, text), [-2])


if __name__ == "__main__":
    unittest.main()

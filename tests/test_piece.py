"""piece: a piece's ends in their order and the joints at them (promise 2), and its refusals."""

import unittest

from drawnglass.desk import joint, piece, size
from tests.texts import LARGEST_NUMBER, MANY_DRAWINGS, NO_DRAWINGS, TOO_LONG, pieces_by_hand, rungs, text_of

ONE_STROKE = text_of([[(3, 7), (9, 1), (0, 1), (3, 0)]])
SEVERAL = text_of([[(8, 8), (0, 8)], [(0, 8), (4, 2), (8, 8)], [(20, 1), (20, 0)], [(4, 2), (4, 0), (0, 0)]])


class Pieces(unittest.TestCase):
    def test_one_stroke(self):
        # Its joints: (3, 0), (0, 1), (9, 1), (3, 7).
        self.assertEqual(piece(0, ONE_STROKE), [0, 3, 7, 9, 1, 3, 2])
        self.assertEqual(piece(1, ONE_STROKE), [0, 9, 1, 0, 1, 2, 1])
        self.assertEqual(piece(2, ONE_STROKE), [0, 0, 1, 3, 0, 1, 0])
        self.assertEqual(piece(3, ONE_STROKE), [-4])

    def test_the_number_runs_on_from_stroke_to_stroke(self):
        # The joints: (0, 0), (4, 0), (20, 0), (20, 1), (4, 2), (0, 8), (8, 8).
        self.assertEqual(piece(0, SEVERAL), [0, 8, 8, 0, 8, 6, 5])
        self.assertEqual(piece(1, SEVERAL), [0, 0, 8, 4, 2, 5, 4])
        self.assertEqual(piece(2, SEVERAL), [0, 4, 2, 8, 8, 4, 6])
        self.assertEqual(piece(3, SEVERAL), [0, 20, 1, 20, 0, 3, 2])
        self.assertEqual(piece(4, SEVERAL), [0, 4, 2, 4, 0, 4, 1])
        self.assertEqual(piece(5, SEVERAL), [0, 4, 0, 0, 0, 1, 0])
        self.assertEqual(piece(6, SEVERAL), [-4])

    def test_ends_stand_in_the_order_in_which_they_were_drawn(self):
        self.assertEqual(piece(0, text_of([[(1, 2), (5, 3)]])), [0, 1, 2, 5, 3, 0, 1])
        self.assertEqual(piece(0, text_of([[(5, 3), (1, 2)]])), [0, 5, 3, 1, 2, 1, 0])

    def test_the_corners_of_the_grid(self):
        text = text_of([[(4095, 4095), (0, 4095), (4095, 0), (0, 0)]])
        self.assertEqual(piece(0, text), [0, 4095, 4095, 0, 4095, 3, 2])
        self.assertEqual(piece(1, text), [0, 0, 4095, 4095, 0, 2, 1])
        self.assertEqual(piece(2, text), [0, 4095, 0, 0, 0, 1, 0])

    def test_every_piece_of_many_drawings(self):
        for strokes in MANY_DRAWINGS:
            text = text_of(strokes)
            pieces = pieces_by_hand(strokes)
            joints = sorted({point for ends in pieces for point in ends}, key=lambda point: (point[1], point[0]))
            for number, (first, second) in enumerate(pieces):
                wanted = [0, *first, *second, joints.index(first), joints.index(second)]
                self.assertEqual(piece(number, text), wanted)
            self.assertEqual(piece(len(pieces), text), [-4])

    def test_the_joints_told_are_those_that_joint_answers_to(self):
        for strokes in MANY_DRAWINGS[::2]:
            text = text_of(strokes)
            for number in range(size(text)[2]):
                told = piece(number, text)
                self.assertEqual(joint(told[5], text)[:3], [0, told[1], told[2]])
                self.assertEqual(joint(told[6], text)[:3], [0, told[3], told[4]])
                self.assertNotEqual(told[5], told[6])


class Refusals(unittest.TestCase):
    def test_the_first_and_the_last_number_and_those_behind(self):
        text = text_of(rungs(64))
        self.assertEqual(piece(0, text), [0, 0, 0, 5, 0, 0, 1])
        self.assertEqual(piece(63, text), [0, 0, 63, 5, 63, 126, 127])
        self.assertEqual(piece(64, text), [-4])
        self.assertEqual(piece(LARGEST_NUMBER, text), [-4])

    def test_there_may_be_a_joint_of_that_number_and_no_piece(self):
        self.assertEqual(piece(1, text_of([[(0, 0), (1, 0)]])), [-4])

    def test_no_drawings_text(self):
        for text in NO_DRAWINGS:
            for number in (0, 1, 64, LARGEST_NUMBER):
                self.assertEqual(piece(number, text), [-6])

    def test_too_long(self):
        for text in TOO_LONG:
            for number in (0, 1, 64, LARGEST_NUMBER):
                self.assertEqual(piece(number, text), [-2])


if __name__ == "__main__":
    unittest.main()

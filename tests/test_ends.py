"""ends: the pieces that end at a joint (promise 2), and its refusals."""

import unittest

from drawnglass.desk import ends, joint, piece, size
from tests.texts import LARGEST_NUMBER, MANY_DRAWINGS, NO_DRAWINGS, TOO_LONG, pieces_by_hand, rungs, star, text_of


class Ends(unittest.TestCase):
    def test_degree_1(self):
        text = text_of([[(0, 0), (4, 0)], [(9, 3), (9, 1)]])
        self.assertEqual([ends(number, text) for number in range(5)], [[1, 0], [1, 0], [1, 1], [1, 1], [-4]])

    def test_degree_2(self):
        # Its joints: (0, 0), (4, 0), (0, 4); the last piece closes the stroke.
        text = text_of([[(0, 0), (4, 0), (0, 4), (0, 0)]])
        self.assertEqual([ends(number, text) for number in range(3)], [[2, 0, 2], [2, 0, 1], [2, 1, 2]])

    def test_degree_8(self):
        arms = [points[::-1] if number % 2 else points for number, points in enumerate(star(8))]
        text = text_of(rungs(3) + arms[:5] + [[(200, 0), (200, 9)]] + arms[5:])
        centre = [joint(number, text)[1:3] for number in range(size(text)[3])].index([100, 100])
        self.assertEqual(joint(centre, text), [0, 100, 100, 8])
        self.assertEqual(ends(centre, text), [8, 3, 4, 5, 6, 7, 9, 10, 11])

    def test_pieces_rise_whichever_end_they_have_there(self):
        text = text_of([[(5, 5), (0, 0)], [(9, 0), (5, 5), (0, 9)], [(1, 5), (5, 5)]])
        self.assertEqual(ends(3, text), [4, 0, 1, 2, 3])

    def test_only_ends_count_not_pieces_near(self):
        text = text_of([[(0, 0), (9, 0)], [(0, 1), (9, 1)], [(0, 1), (0, 2)]])
        self.assertEqual([ends(number, text) for number in range(5)], [[1, 0], [1, 0], [2, 1, 2], [1, 1], [1, 2]])

    def test_every_joint_of_many_drawings(self):
        for strokes in MANY_DRAWINGS:
            text = text_of(strokes)
            pieces = pieces_by_hand(strokes)
            points = sorted({point for both in pieces for point in both}, key=lambda point: (point[1], point[0]))
            for number, point in enumerate(points):
                there = [k for k in range(len(pieces)) if point in pieces[k]]
                self.assertEqual(ends(number, text), [len(there)] + there)

    def test_each_piece_is_told_at_just_its_two_joints_and_as_many_as_the_degree(self):
        for strokes in MANY_DRAWINGS[::2]:
            text = text_of(strokes)
            told_at = {}
            for number in range(size(text)[3]):
                told = ends(number, text)
                self.assertEqual(told[0], joint(number, text)[3])
                self.assertEqual(told[0], len(told) - 1)
                self.assertEqual(told[1:], sorted(set(told[1:])))
                for k in told[1:]:
                    told_at.setdefault(k, []).append(number)
            self.assertEqual(sorted(told_at), list(range(size(text)[2])))
            for k, numbers in told_at.items():
                self.assertEqual(numbers, sorted(piece(k, text)[5:]))


class Refusals(unittest.TestCase):
    def test_the_first_and_the_last_number_and_those_behind(self):
        text = text_of(rungs(64))
        self.assertEqual(ends(0, text), [1, 0])
        self.assertEqual(ends(127, text), [1, 63])
        self.assertEqual(ends(128, text), [-4])
        self.assertEqual(ends(LARGEST_NUMBER, text), [-4])

    def test_there_may_be_a_piece_of_that_number_and_no_joint(self):
        strokes = [[(0, 0), (90, 0), (0, 90), (0, 0), (20, 20), (90, 0)], [(20, 20), (0, 90)]]
        self.assertEqual(ends(3, text_of(strokes)), [3, 1, 2, 5])
        self.assertEqual(ends(4, text_of(strokes)), [-4])

    def test_no_drawings_text(self):
        for text in NO_DRAWINGS:
            for number in (0, 1, 128, LARGEST_NUMBER):
                self.assertEqual(ends(number, text), [-6])

    def test_too_long(self):
        for text in TOO_LONG:
            for number in (0, 1, 128, LARGEST_NUMBER):
                self.assertEqual(ends(number, text), [-2])


if __name__ == "__main__":
    unittest.main()

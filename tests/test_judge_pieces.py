"""judge: kinds 5 and 6, how pieces meet and how many end at a point (promises 1 and 2)."""

import unittest
from itertools import combinations

from drawnglass.desk import judge
from tests.texts import grid_pieces, meet_badly_by_definition, rungs, star, text_of

# Each row: two pieces that meet badly.
BAD = {
    "cross": ([(0, 0), (4, 4)], [(0, 4), (4, 0)]),
    "cross at no whole coordinates": ([(0, 0), (3, 1)], [(0, 1), (1, 0)]),
    "cross at halves": ([(0, 0), (1, 1)], [(0, 1), (1, 0)]),
    "cross far out": ([(0, 0), (4095, 4094)], [(4095, 4095), (4094, 4092)]),
    "lie over one another in part": ([(0, 0), (6, 3)], [(4, 2), (10, 5)]),
    "one lies within the other": ([(0, 0), (9, 0)], [(3, 0), (5, 0)]),
    "one lies within the other from its end": ([(0, 0), (9, 0)], [(0, 0), (5, 0)]),
    "the same": ([(0, 0), (5, 7)], [(0, 0), (5, 7)]),
    "the same backwards": ([(0, 0), (5, 7)], [(5, 7), (0, 0)]),
    "an end in the midst": ([(0, 0), (6, 4)], [(3, 2), (9, 0)]),
    "an end in the midst, upright": ([(5, 0), (5, 9)], [(5, 3), (8, 3)]),
}

# Each row: two pieces that don't meet badly.
FINE = {
    "on one line, sharing an end": ([(0, 0), (2, 1)], [(2, 1), (6, 3)]),
    "on one level line, sharing an end": ([(0, 5), (4, 5)], [(4, 5), (9, 5)]),
    "on one upright line, sharing an end": ([(5, 0), (5, 4)], [(5, 4), (5, 9)]),
    "on one line, apart": ([(0, 0), (2, 1)], [(4, 2), (6, 3)]),
    "on one upright line, apart": ([(5, 0), (5, 4)], [(5, 5), (5, 9)]),
    "beside one another": ([(0, 0), (4, 2)], [(0, 1), (4, 3)]),
    "share an end": ([(0, 0), (4, 2)], [(4, 2), (0, 3)]),
    "share an end at a sharp bend": ([(0, 0), (4095, 1)], [(4095, 1), (0, 1)]),
    "the whole lines meet outside one": ([(0, 0), (4, 0)], [(5, 1), (5, 9)]),
    "the whole line of one goes through the other": ([(0, 0), (4, 4)], [(6, 8), (8, 6)]),
    "an end close to the other": ([(0, 0), (4095, 4094)], [(2048, 2048), (0, 4095)]),
    "an end on the other's whole line": ([(0, 0), (2, 2)], [(3, 3), (9, 0)]),
}


# All ways to tell the two pieces: either one first, each in both directions.
def orders(one, other):
    for first, second in ((one, other), (other, one)):
        for a in (list(first), list(reversed(first))):
            for b in (list(second), list(reversed(second))):
                yield [a, b]


class TwoPieces(unittest.TestCase):
    def test_pieces_that_meet_badly(self):
        for name, (one, other) in BAD.items():
            for strokes in orders(one, other):
                with self.subTest(name=name, strokes=strokes):
                    self.assertEqual(judge(text_of(strokes)), [-6, 5, 2, 1])

    def test_pieces_that_do_not(self):
        for name, (one, other) in FINE.items():
            for strokes in orders(one, other):
                with self.subTest(name=name, strokes=strokes):
                    self.assertEqual(judge(text_of(strokes)), [0])

    def test_every_two_pieces_of_a_small_grid(self):
        pieces = grid_pieces(3)
        for one in pieces:
            for other in pieces:
                wanted = [-6, 5, 2, 1] if meet_badly_by_definition(one, other) else [0]
                self.assertEqual(judge(text_of([one, other])), wanted, (one, other))

    def test_pieces_of_a_wider_grid(self):
        pieces = [piece for piece in grid_pieces(6) if piece[0] < piece[1]][::7]
        for one, other in combinations(pieces, 2):
            wanted = [-6, 5, 2, 1] if meet_badly_by_definition(one, other) else [0]
            self.assertEqual(judge(text_of([one, other])), wanted, (one, other))


class WhichPiece(unittest.TestCase):
    def test_within_one_stroke(self):
        self.assertEqual(judge(text_of([[(0, 0), (4, 0), (0, 0)]])), [-6, 5, 1, 1])
        self.assertEqual(judge(text_of([[(0, 0), (4, 0), (2, 0)]])), [-6, 5, 1, 1])
        self.assertEqual(judge(text_of([[(0, 0), (4, 0), (9, 0)]])), [0])
        self.assertEqual(judge(text_of([[(0, 0), (4, 4), (4, 0), (0, 4)]])), [-6, 5, 1, 2])

    def test_a_stroke_that_closes_on_itself(self):
        self.assertEqual(judge(text_of([[(0, 0), (9, 0), (9, 9), (0, 9), (0, 0)]])), [0])
        self.assertEqual(judge(text_of([[(0, 0), (9, 0), (9, 9), (0, 9), (0, 0), (9, 0)]])), [-6, 5, 1, 4])

    def test_the_number_counts_all_pieces_before(self):
        strokes = [[(0, 0), (9, 0), (9, 9)], [(20, 0), (20, 5), (25, 5)], [(0, 20), (18, 20), (18, 2), (22, 3)]]
        self.assertEqual(judge(text_of(strokes)), [-6, 5, 3, 6])

    def test_the_first_such_piece_of_the_line(self):
        strokes = rungs(4) + [[(9, 0), (9, 9), (3, 9), (3, 2), (4, 1)]]
        self.assertEqual(judge(text_of(strokes)), [-6, 5, 5, 6])

    def test_with_any_piece_before_not_just_the_last(self):
        for hit in range(63):
            strokes = [[(0, 10 * y), (5, 10 * y)] for y in range(63)]
            ending_in_midst = [(2, 10 * hit + 1), (3, 10 * hit)]
            self.assertEqual(judge(text_of(strokes + [ending_in_midst])), [-6, 5, 64, 63])

    def test_the_64th_piece(self):
        row = [(x, 0) for x in range(64)]
        self.assertEqual(judge(text_of([row + [(63, 1)]])), [0])
        self.assertEqual(judge(text_of([row + [(62, 0)]])), [-6, 5, 1, 63])


class NinthPiece(unittest.TestCase):
    def test_the_eighth_and_the_ninth(self):
        self.assertEqual(judge(text_of(star(8))), [0])
        self.assertEqual(judge(text_of(star(9))), [-6, 6, 9, 8])

    def test_ends_of_either_kind_count(self):
        mixed = [list(reversed(points)) if number % 2 else points for number, points in enumerate(star(9))]
        self.assertEqual(judge(text_of(mixed[:8])), [0])
        self.assertEqual(judge(text_of(mixed)), [-6, 6, 9, 8])
        self.assertEqual(judge(text_of(mixed[:8] + [list(reversed(mixed[8]))])), [-6, 6, 9, 8])

    def test_a_stroke_through_the_point_counts_twice(self):
        arms = star(10)
        through = [arms[7][1], arms[7][0], arms[8][1]]
        self.assertEqual(judge(text_of(arms[:6] + [through])), [0])
        self.assertEqual(judge(text_of(arms[:7] + [through])), [-6, 6, 8, 8])
        self.assertEqual(judge(text_of(arms[:8] + [[arms[8][1], arms[8][0], arms[9][1]]])), [-6, 6, 9, 8])

    def test_the_number_counts_all_pieces_before(self):
        strokes = rungs(20) + star(8) + [[(300, 0), (300, 90), (100, 100), (0, 300)]]
        self.assertEqual(judge(text_of(strokes)), [-6, 6, 29, 29])

    def test_two_points_with_eight_each(self):
        self.assertEqual(judge(text_of(star(8) + star(8, (200, 100)))), [0])
        self.assertEqual(judge(text_of(star(8) + star(9, (200, 100)))), [-6, 6, 17, 16])

    def test_kind_5_comes_before_kind_6(self):
        arms = star(9)
        self.assertEqual(judge(text_of(arms[:8] + [[(100, 100), (102, 101), (100, 101)]])), [-6, 5, 9, 9])
        self.assertEqual(judge(text_of(arms[:8] + [[(100, 100), (103, 100)]])), [-6, 5, 9, 8])

    def test_an_earlier_line_comes_first(self):
        self.assertEqual(judge(text_of(star(9) + [[(0, 0), (0, 0)]])), [-6, 6, 9, 8])
        self.assertEqual(judge(text_of([[(0, 0), (4, 4), (4, 0), (0, 4)]] + star(9))), [-6, 5, 1, 2])


if __name__ == "__main__":
    unittest.main()

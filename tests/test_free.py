"""free: whether a drawing may have one more piece (promise 5), and its refusals."""

import unittest

from drawnglass.desk import free, judge
from tests.texts import DIRECTIONS, LARGEST_NUMBER, MANY_DRAWINGS, NO_DRAWINGS, TOO_LONG
from tests.texts import grid_pieces, meet_badly_by_definition, pieces_by_hand, rungs, star, text_of

LEVEL = [[(10, 10), (20, 10)]]

# Each row: a piece that meets the level one badly.
BAD = {
    "crosses it": [(15, 5), (15, 15)],
    "crosses it aslant": [(12, 9), (13, 12)],
    "lies over it in part": [(15, 10), (30, 10)],
    "lies over it in part, before it": [(0, 10), (11, 10)],
    "lies over its whole and further": [(5, 10), (25, 10)],
    "lies over its whole from one end": [(10, 10), (25, 10)],
    "lies within it": [(12, 10), (18, 10)],
    "lies within it from one end": [(10, 10), (18, 10)],
    "has both its ends": [(10, 10), (20, 10)],
    "ends in its midst": [(15, 10), (15, 20)],
    "ends in its midst, aslant": [(11, 10), (0, 0)],
    "has its first end in the midst": [(10, 5), (10, 15)],
    "has its second end in the midst": [(18, 12), (22, 8)],
}

# Each row: a piece that doesn't.
FINE = {
    "shares its first end": [(10, 10), (5, 5)],
    "shares its second end": [(20, 10), (20, 30)],
    "goes on from it on one line": [(20, 10), (30, 10)],
    "comes to it on one line": [(0, 10), (10, 10)],
    "shares an end at a sharp bend": [(10, 10), (21, 11)],
    "on one line with a gap": [(21, 10), (30, 10)],
    "beside it": [(10, 11), (20, 11)],
    "above it": [(15, 0), (15, 9)],
    "far away": [(4095, 4095), (4000, 4095)],
    "its whole line goes through it": [(15, 11), (15, 20)],
    "just past its end": [(21, 0), (21, 20)],
}


# Whether the drawing with that piece more were one, but for how many there are: from the definition.
def free_by_definition(piece, strokes):
    pieces = pieces_by_hand(strokes)
    if any(meet_badly_by_definition(piece, other) for other in pieces):
        return [0]
    return [0] if any(sum(point in other for other in pieces) > 7 for point in piece) else [1]


class OnePieceMore(unittest.TestCase):
    def test_pieces_that_meet_badly(self):
        for name, (one, other) in BAD.items():
            for strokes in (LEVEL, [LEVEL[0][::-1]], rungs(4) + LEVEL + star(3)):
                with self.subTest(name=name):
                    self.assertEqual(free(*one, *other, text_of(strokes)), [0])
                    self.assertEqual(free(*other, *one, text_of(strokes)), [0])

    def test_pieces_that_do_not(self):
        for name, (one, other) in FINE.items():
            for strokes in (LEVEL, [LEVEL[0][::-1]], LEVEL + star(3)):
                with self.subTest(name=name):
                    self.assertEqual(free(*one, *other, text_of(strokes)), [1])
                    self.assertEqual(free(*other, *one, text_of(strokes)), [1])

    def test_any_piece_of_the_drawing_counts(self):
        text = text_of(rungs(20))
        for y in range(20):
            self.assertEqual(free(3, y, 3, y + 20, text), [0])
            self.assertEqual(free(5, y, 9, y, text), [1])

    def test_a_piece_that_joins_two_pieces(self):
        text = text_of([[(0, 0), (9, 0)], [(0, 9), (9, 9)]])
        self.assertEqual(free(0, 0, 0, 9, text), [1])
        self.assertEqual(free(9, 9, 0, 0, text), [1])
        self.assertEqual(free(9, 9, 5, 0, text), [0])

    def test_every_piece_of_a_small_grid(self):
        strokes = [[(0, 0), (2, 1)], [(2, 1), (2, 2), (1, 1)]]
        self.assertEqual(judge(text_of(strokes)), [0])
        for one, other in grid_pieces(3):
            self.assertEqual(free(*one, *other, text_of(strokes)), free_by_definition((one, other), strokes))

    def test_free_just_if_the_text_with_that_stroke_tells_a_drawing(self):
        answers = []
        for strokes in MANY_DRAWINGS:
            ends = [point for both in pieces_by_hand(strokes) for point in both]
            if len(ends) > 100:
                continue
            tried = list(zip(ends[::3], ends[1::4])) + [((x, 4095 - x), (y, x)) for x, y in ends[::9]]
            for one, other in tried:
                if one != other:
                    answer = free(*one, *other, text_of(strokes))
                    self.assertEqual(answer, [1 if judge(text_of(strokes + [[one, other]])) == [0] else 0])
                    self.assertEqual(answer, free_by_definition((one, other), strokes))
                    answers.append(answer)
        self.assertGreater(answers.count([1]), 20)
        self.assertGreater(answers.count([0]), 20)


class Degrees(unittest.TestCase):
    def test_the_eighth_and_the_ninth_at_a_joint(self):
        for many, wanted in ((6, [1]), (7, [1]), (8, [0])):
            dx, dy = DIRECTIONS[many]
            text = text_of(star(many))
            self.assertEqual(free(100, 100, 100 + dx, 100 + dy, text), wanted)
            self.assertEqual(free(100 + dx, 100 + dy, 100, 100, text), wanted)

    def test_ends_of_either_kind_count(self):
        arms = [points[::-1] if number % 2 else points for number, points in enumerate(star(8))]
        self.assertEqual(free(100, 100, 99, 98, text_of(arms)), [0])
        self.assertEqual(free(100, 100, 101, 99, text_of(arms[:7])), [1])

    def test_strokes_through_the_joint_count_twice(self):
        arms = star(9)
        through = [[arms[k][1], arms[k][0], arms[k + 1][1]] for k in (0, 2, 4, 6)]
        self.assertEqual(free(*arms[8][0], *arms[8][1], text_of(through)), [0])
        self.assertEqual(free(*arms[8][0], *arms[8][1], text_of(through[:3] + arms[6:7])), [1])

    def test_a_full_joint_elsewhere_is_no_matter(self):
        self.assertEqual(free(0, 0, 9, 9, text_of(star(8))), [1])
        self.assertEqual(free(101, 100, 200, 100, text_of(star(8))), [1])

    def test_two_full_joints(self):
        text = text_of(star(8) + star(8, (200, 100)))
        self.assertEqual(free(102, 101, 200, 100, text), [0])
        self.assertEqual(free(102, 101, 199, 101, text), [1])


class HowMany(unittest.TestCase):
    def test_64_strokes(self):
        text = text_of(rungs(64))
        self.assertEqual(judge(text), [0])
        self.assertEqual(free(10, 0, 10, 9, text), [1])
        self.assertEqual(free(5, 63, 9, 63, text), [1])
        self.assertEqual(free(3, 63, 9, 63, text), [0])

    def test_64_pieces_of_one_stroke(self):
        text = text_of([[(x, x % 2) for x in range(65)]])
        self.assertEqual(judge(text), [0])
        self.assertEqual(free(64, 0, 65, 1, text), [1])
        self.assertEqual(free(0, 0, 64, 0, text), [0])
        self.assertEqual(free(0, 9, 64, 9, text), [1])

    def test_64_pieces_and_a_full_joint(self):
        text = text_of(rungs(56) + star(8))
        self.assertEqual(free(100, 100, 102, 101, text), [0])
        self.assertEqual(free(101, 100, 102, 101, text), [1])


class Refusals(unittest.TestCase):
    def test_each_coordinate_at_and_above_the_largest(self):
        text = text_of(LEVEL)
        self.assertEqual(free(4095, 4095, 0, 4095, text), [1])
        self.assertEqual(free(4095, 0, 4095, 4095, text), [1])
        for place in range(4):
            for large in (4096, 65536, LARGEST_NUMBER):
                numbers = [4095, 0, 4094, 4095]
                numbers[place] = large
                self.assertEqual(free(*numbers, text), [-1])
                crossing = [15, 0, 15, 20]
                crossing[place] = large
                self.assertEqual(free(*crossing, text), [-1])

    def test_two_points_that_are_one(self):
        text = text_of(LEVEL)
        for x, y in ((0, 0), (10, 10), (15, 10), (4095, 4095), (4096, 4096), (LARGEST_NUMBER, 0)):
            self.assertEqual(free(x, y, x, y, text), [-1])

    def test_points_that_are_alike_but_not_one(self):
        text = text_of(LEVEL)
        self.assertEqual(free(3, 3, 3, 4, text), [1])
        self.assertEqual(free(3, 3, 4, 3, text), [1])
        self.assertEqual(free(3, 4, 4, 3, text), [1])

    def test_no_drawings_text(self):
        for text in NO_DRAWINGS:
            for numbers in ((0, 0, 9, 9), (4096, 0, 0, 0), (0, 0, 0, 4096), (7, 7, 7, 7), (LARGEST_NUMBER,) * 4):
                self.assertEqual(free(*numbers, text), [-6])

    def test_too_long(self):
        for text in TOO_LONG:
            for numbers in ((0, 0, 9, 9), (4096, 0, 0, 0), (0, 0, 0, 4096), (7, 7, 7, 7), (LARGEST_NUMBER,) * 4):
                self.assertEqual(free(*numbers, text), [-2])


if __name__ == "__main__":
    unittest.main()

"""The whole program: all calls tell one and the same drawing (promises 1 to 5), and refuse the same texts."""

import unittest
from itertools import combinations

from drawnglass.desk import at, cross, ends, free, joint, judge, part, piece, size
from tests.texts import LARGEST_NUMBER, MANY_DRAWINGS, NO_DRAWINGS, TOO_LONG, bytes_of, rungs, star, text_of

# Two squares that share a corner, a star of 8 apart from them, and a piece by itself.
SIGN = [[(0, 0), (9, 0), (9, 9), (0, 9), (0, 0)], [(9, 9), (18, 9), (18, 18), (9, 18), (9, 9)]]
SIGN += star(8)[:4] + [[(4095, 0), (4095, 4095)]] + star(8)[4:]


# Each call with a text, with numbers that are there, numbers that are not, and numbers that are wrong.
def answers_to(text):
    answers = [size(text)]
    for number in (0, 1, 64, 128, LARGEST_NUMBER):
        answers += [call(number, text) for call in (piece, joint, ends, part)]
    for large in (0, 4095, 4096, LARGEST_NUMBER):
        answers += [at(large, 0, text), at(0, large, text)]
        answers += [free(large, 1, 1, 0, text), free(1, 1, 0, large, text), free(large, large, large, large, text)]
    return answers


class OneDrawing(unittest.TestCase):
    def test_all_calls_tell_the_same_drawing(self):
        for strokes in [SIGN] + MANY_DRAWINGS[::3]:
            self.check_drawing(strokes)

    def check_drawing(self, strokes):
        text = text_of(strokes)
        self.assertEqual(judge(text), [0])
        zero, many_strokes, many_pieces, many_joints, many_parts = size(text)
        pieces = [piece(k, text) for k in range(many_pieces)]
        joints = [joint(k, text) for k in range(many_joints)]
        self.check_strokes(strokes, pieces)
        self.assertEqual((zero, many_strokes), (0, len(strokes)))
        self.check_joints(text, pieces, joints)
        self.check_parts(text, pieces, many_parts)
        self.check_meetings(text, pieces)
        self.assertEqual([call(many_pieces, text) for call in (piece, part)], [[-4], [-4]])
        self.assertEqual([call(many_joints, text) for call in (joint, ends)], [[-4], [-4]])

    # Promise 1: the pieces told are those that the text was made of, so they give the text again.
    def check_strokes(self, strokes, pieces):
        drawn = [first + second for points in strokes for first, second in zip(points, points[1:])]
        self.assertEqual([tuple(told[1:5]) for told in pieces], drawn)

    # Promise 2: every joint has its pieces, each piece its two joints.
    def check_joints(self, text, pieces, joints):
        places = [(told[2], told[1]) for told in joints]
        self.assertEqual(places, sorted(set(places)))
        self.assertEqual(sum(told[3] for told in joints), 2 * len(pieces))
        for number, told in enumerate(joints):
            there = [k for k in range(len(pieces)) if number in pieces[k][5:]]
            self.assertEqual(ends(number, text), [told[3]] + there)
            self.assertEqual(at(told[1], told[2], text), [there[0]])
            self.assertTrue(1 <= told[3] <= 8)
        for told in pieces:
            self.assertEqual([joints[told[5]][:3], joints[told[6]][:3]], [[0] + told[1:3], [0] + told[3:5]])

    # Promise 3: each piece is in one part, and pieces that share a joint are in the same.
    def check_parts(self, text, pieces, many_parts):
        parts = [part(k, text) for k in range(len(pieces))]
        self.assertEqual(sorted({told[0] for told in parts}), list(range(many_parts)))
        for k, told in enumerate(parts):
            self.assertEqual(told[1:], [other for other in range(len(pieces)) if parts[other][0] == told[0]])
        for one, other in combinations(range(len(pieces)), 2):
            if set(pieces[one][5:]) & set(pieces[other][5:]):
                self.assertEqual(parts[one], parts[other])

    # Promises 2, 4 and 5: no two pieces meet badly, a point is on the piece told, no piece fits once more.
    def check_meetings(self, text, pieces):
        for one, other in combinations(pieces, 2):
            meet = len(set(one[5:]) & set(other[5:]))
            self.assertEqual(cross(*one[1:5], *other[1:5]), [meet])
        for told in pieces[::4]:
            self.assertEqual(free(*told[1:5], text), [0])
            self.assertEqual(free(*told[3:5], *told[1:3], text), [0])
            on = at((told[1] + told[3]) // 2, (told[2] + told[4]) // 2, text)
            self.assertTrue(on == [-5] or 0 <= on[0] < len(pieces))

    def test_a_free_piece_can_be_drawn_and_is_told_then(self):
        text = text_of(SIGN)
        for one, other in (((9, 0), (18, 9)), ((4095, 0), (18, 18)), ((0, 4095), (1, 4095)), ((101, 100), (4095, 0))):
            self.assertEqual(free(*one, *other, text), [1])
            more = text_of(SIGN + [[one, other]])
            self.assertEqual(judge(more), [0])
            self.assertEqual(piece(17, more)[:5], [0, *one, *other])
            self.assertEqual(part(17, text), [-4])
            self.assertIn(17, part(17, more)[1:])

    def test_a_piece_that_is_not_free_can_not_be_drawn(self):
        text = text_of(SIGN)
        for one, other in (((0, 5), (18, 5)), ((9, 9), (9, 0)), ((100, 100), (102, 101)), ((4095, 5), (4000, 5))):
            self.assertEqual(free(*one, *other, text), [0])
            self.assertEqual(judge(text_of(SIGN + [[one, other]]))[0], -6)

    def test_two_drawings_that_differ_in_a_little_are_told_apart(self):
        def told(strokes):
            text = text_of(strokes)
            return [piece(k, text)[1:5] for k in range(size(text)[2])], size(text)[1]

        near = [
            [[(0, 0), (9, 0), (9, 9)]],
            [[(0, 0), (9, 0)], [(9, 0), (9, 9)]],
            [[(9, 9), (9, 0), (0, 0)]],
            [[(9, 0), (9, 9)], [(0, 0), (9, 0)]],
            [[(0, 0), (9, 0), (9, 8)]],
        ]
        for one, other in combinations(near, 2):
            self.assertNotEqual(told(one), told(other))


class SameRefusals(unittest.TestCase):
    def test_every_call_refuses_what_judge_refuses(self):
        for text in NO_DRAWINGS:
            self.assertEqual(judge(text)[0], -6)
            self.assertEqual(len(judge(text)), 4)
            self.assertEqual(answers_to(text), [[-6]] * len(answers_to(text)))
        for text in TOO_LONG:
            self.assertEqual(judge(text), [-2])
            self.assertEqual(answers_to(text), [[-2]] * len(answers_to(text)))

    def test_no_call_refuses_what_judge_does_not(self):
        for strokes in (SIGN, rungs(2), star(8)):
            text = text_of(strokes)
            self.assertEqual(judge(text), [0])
            self.assertFalse([answer for answer in answers_to(text) if answer[0] in (-6, -2)])

    def test_every_text_one_byte_from_a_drawings(self):
        text = text_of([[(10, 0), (4, 4)], [(4, 4), (0, 9)]])
        for place in range(len(text) + 1):
            for other in (text[:place] + text[place + 1:], text[:place] + bytes_of("4") + text[place:]):
                verdict = judge(other)
                refused = [answer == [-6] for answer in answers_to(other)]
                self.assertEqual(set(refused), {verdict != [0]}, other)


if __name__ == "__main__":
    unittest.main()

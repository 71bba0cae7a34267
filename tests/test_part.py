"""part: which pieces hang together, and how parts are numbered (promise 3), and its refusals."""

import unittest

from drawnglass.desk import ends, part, piece, size
from tests.texts import LARGEST_NUMBER, MANY_DRAWINGS, NO_DRAWINGS, TOO_LONG
from tests.texts import parts_by_walking, pieces_by_hand, rungs, star, text_of

SQUARE = [(0, 0), (9, 0), (9, 9), (0, 9), (0, 0)]


def parts_told(text):
    return [part(number, text) for number in range(size(text)[2])]


class Parts(unittest.TestCase):
    def test_one_part(self):
        self.assertEqual(parts_told(text_of([[(0, 0), (1, 0)]])), [[0, 0]])
        self.assertEqual(parts_told(text_of([[(0, 0), (9, 0), (9, 9)]])), [[0, 0, 1]] * 2)
        self.assertEqual(parts_told(text_of(star(8))), [[0, 0, 1, 2, 3, 4, 5, 6, 7]] * 8)

    def test_several_parts(self):
        self.assertEqual(parts_told(text_of(rungs(3))), [[0, 0], [1, 1], [2, 2]])
        text = text_of([[(0, 0), (9, 0), (9, 9)], [(20, 0), (20, 5)], [(20, 5), (25, 5)]])
        self.assertEqual(parts_told(text), [[0, 0, 1], [0, 0, 1], [1, 2, 3], [1, 2, 3]])

    def test_a_part_that_closes_on_itself(self):
        self.assertEqual(parts_told(text_of([SQUARE])), [[0, 0, 1, 2, 3]] * 4)

    def test_a_part_within_another_that_it_does_not_touch(self):
        text = text_of([[(3, 3), (6, 3), (6, 6), (3, 3)], SQUARE])
        self.assertEqual(parts_told(text), [[0, 0, 1, 2]] * 3 + [[1, 3, 4, 5, 6]] * 4)

    def test_a_part_whose_pieces_are_far_apart_in_the_numbering(self):
        text = text_of([[(100, 0), (100, 9)]] + rungs(62) + [[(100, 9), (200, 9)]])
        self.assertEqual(part(0, text), [0, 0, 63])
        self.assertEqual(part(63, text), [0, 0, 63])
        self.assertEqual(part(1, text), [1, 1])
        self.assertEqual(part(62, text), [62, 62])

    def test_two_parts_that_a_later_stroke_makes_one(self):
        self.assertEqual(parts_told(text_of(rungs(2))), [[0, 0], [1, 1]])
        self.assertEqual(parts_told(text_of(rungs(2) + [[(5, 0), (5, 1)]])), [[0, 0, 1, 2]] * 3)

    def test_parts_that_come_together_in_several_steps(self):
        strokes = rungs(4) + [[(5, 2), (5, 3)], [(5, 0), (5, 1)]]
        first, second = [0, 0, 1, 5], [1, 2, 3, 4]
        self.assertEqual(parts_told(text_of(strokes)), [first, first, second, second, second, first])
        self.assertEqual(parts_told(text_of(strokes + [[(0, 1), (0, 2)]])), [[0, 0, 1, 2, 3, 4, 5, 6]] * 7)

    def test_parts_are_numbered_by_their_least_pieces(self):
        # Neither by where they are, nor by how many pieces they have, nor by their last pieces.
        strokes = [[(50, 50), (60, 50)], [(0, 0), (5, 0)], [(30, 9), (31, 9)], [(5, 0), (5, 5)], [(60, 50), (9, 99)]]
        text = text_of(strokes)
        self.assertEqual(parts_told(text), [[0, 0, 4], [1, 1, 3], [2, 2], [1, 1, 3], [0, 0, 4]])

    def test_numbers_of_parts_leave_out_none(self):
        # The least pieces are 0, 3 and 5; the parts are still 0, 1 and 2.
        text = text_of([[(0, 0), (1, 0), (2, 0), (3, 0)], [(0, 5), (1, 5), (2, 5)], [(0, 9), (1, 9)]])
        self.assertEqual([told[0] for told in parts_told(text)], [0, 0, 0, 1, 1, 2])

    def test_a_long_chain_drawn_in_any_order(self):
        links = [[(x, x % 2), (x + 1, (x + 1) % 2)] for x in range(64)]
        wanted = [0] + list(range(64))
        for strokes in (links, links[::-1], links[::2] + links[1::2], links[1::2] + links[::2][::-1]):
            self.assertEqual(part(0, text_of(strokes)), wanted)
            self.assertEqual(part(63, text_of(strokes)), wanted)


class Promise(unittest.TestCase):
    def test_every_part_of_many_drawings(self):
        for strokes in MANY_DRAWINGS:
            parts = parts_by_walking(pieces_by_hand(strokes))
            wanted = {k: [number] + members for number, members in enumerate(parts) for k in members}
            self.assertEqual(parts_told(text_of(strokes)), [wanted[k] for k in sorted(wanted)])

    def test_every_piece_in_one_part_and_as_many_parts_as_size_tells(self):
        for strokes in MANY_DRAWINGS[::2]:
            text = text_of(strokes)
            told = parts_told(text)
            parts = {answer[0]: answer[1:] for answer in told}
            self.assertEqual(sorted(parts), list(range(size(text)[4])))
            self.assertEqual(sorted(k for members in parts.values() for k in members), list(range(len(told))))
            for k, answer in enumerate(told):
                self.assertIn(k, answer[1:])
                self.assertEqual(answer[1:], parts[answer[0]])
            least = [parts[number][0] for number in sorted(parts)]
            self.assertEqual(least, sorted(least))

    def test_no_joint_is_of_two_parts(self):
        for strokes in MANY_DRAWINGS[::2]:
            text = text_of(strokes)
            told = parts_told(text)
            for number in range(size(text)[3]):
                self.assertEqual(len({told[k][0] for k in ends(number, text)[1:]}), 1)

    def test_within_a_part_one_comes_from_its_least_piece_to_all_by_joints(self):
        for strokes in MANY_DRAWINGS[::2]:
            text = text_of(strokes)
            for members in {answer[0]: answer[1:] for answer in parts_told(text)}.values():
                reached = members[:1]
                for k in reached:
                    for number in piece(k, text)[5:]:
                        reached.extend(sorted(set(ends(number, text)[1:]) - set(reached)))
                self.assertEqual(sorted(reached), members)


class Refusals(unittest.TestCase):
    def test_the_first_and_the_last_number_and_those_behind(self):
        text = text_of(rungs(64))
        self.assertEqual(part(0, text), [0, 0])
        self.assertEqual(part(63, text), [63, 63])
        self.assertEqual(part(64, text), [-4])
        self.assertEqual(part(LARGEST_NUMBER, text), [-4])
        self.assertEqual(part(1, text_of([[(0, 0), (1, 0)]])), [-4])

    def test_no_drawings_text(self):
        for text in NO_DRAWINGS:
            for number in (0, 1, 64, LARGEST_NUMBER):
                self.assertEqual(part(number, text), [-6])

    def test_too_long(self):
        for text in TOO_LONG:
            for number in (0, 1, 64, LARGEST_NUMBER):
                self.assertEqual(part(number, text), [-2])


if __name__ == "__main__":
    unittest.main()

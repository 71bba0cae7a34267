"""judge: kinds 1 to 4, the form of a text, and which line and kind is told (promise 1)."""

import unittest

from drawnglass.desk import judge
from tests.texts import bytes_of, rungs, text_of

GOOD = "stroke 0,0 1,0\n"


def judged(words):
    return judge(bytes_of(words))


class Drawings(unittest.TestCase):
    def test_drawings_are_judged_good(self):
        for strokes in (
            [[(0, 0), (1, 0)]],
            [[(0, 0), (10, 0), (10, 10), (20, 3)]],
            [[(0, 0), (5, 5)], [(5, 5), (9, 0)], [(5, 5), (5, 9)]],
            [[(0, 0), (4, 0), (0, 4), (0, 0)]],
            [[(0, 0), (4, 0)], [(0, 8), (4, 8)]],
            [[(0, 4095), (4095, 0)], [(0, 0), (1, 1)]],
        ):
            with self.subTest(strokes=strokes):
                self.assertEqual(judge(text_of(strokes)), [0])

    def test_a_text_by_its_bytes(self):
        self.assertEqual(judged("sign Cafe7\nstroke 10,0 4095,0 4095,4095\nstroke 3,3 4,5\n"), [0])


class WrongTexts(unittest.TestCase):
    def test_no_bytes(self):
        self.assertEqual(judge([]), [-6, 1, 0, 0])

    def test_ends_behind_line_0(self):
        self.assertEqual(judged("sign A\n"), [-6, 1, 1, 0])

    def test_byte_10_missing(self):
        self.assertEqual(judged("sign A"), [-6, 1, 0, 0])
        self.assertEqual(judged("sign A\nstroke 0,0 1,0"), [-6, 1, 1, 0])
        self.assertEqual(judged("sign A\n" + GOOD + "stroke 3,3 4,4"), [-6, 1, 2, 0])

    def test_bytes_behind_the_last_byte_10(self):
        self.assertEqual(judged("sign A\n" + GOOD + "x"), [-6, 1, 2, 0])
        self.assertEqual(judged("sign A\n" + GOOD + " "), [-6, 1, 2, 0])
        self.assertEqual(judged("sign A\n" + GOOD + "\x00"), [-6, 1, 2, 0])
        self.assertEqual(judged("sign A\nx"), [-6, 1, 1, 0])

    def test_a_missing_byte_10_is_kind_1_whatever_else_is_wrong_in_the_line(self):
        self.assertEqual(judged("sign A\nstroke 0,0 5000,0"), [-6, 1, 1, 0])
        self.assertEqual(judged("sign A\nstroke 0,0 0,0"), [-6, 1, 1, 0])

    def test_empty_lines(self):
        self.assertEqual(judged("\n"), [-6, 1, 0, 0])
        self.assertEqual(judged("\nsign A\n" + GOOD), [-6, 1, 0, 0])
        self.assertEqual(judged("sign A\n\n" + GOOD), [-6, 1, 1, 0])
        self.assertEqual(judged("sign A\n" + GOOD + "\n"), [-6, 1, 2, 0])


class SignLine(unittest.TestCase):
    def test_names_of_1_and_12_bytes(self):
        for name in ("A", "Z", "a", "z", "0", "9", "abcXYZ012789", "123456789012"):
            with self.subTest(name=name):
                self.assertEqual(judged(f"sign {name}\n" + GOOD), [0])

    def test_names_of_0_and_13_bytes(self):
        for line in ("sign", "sign ", "sign 1234567890123"):
            with self.subTest(line=line):
                self.assertEqual(judged(line + "\n" + GOOD), [-6, 1, 0, 0])

    def test_every_byte_as_a_name(self):
        for byte in range(256):
            with self.subTest(byte=byte):
                good = byte < 128 and chr(byte).isalnum()
                text = bytes_of("sign a") + [byte] + bytes_of("b\n" + GOOD)
                self.assertEqual(judge(text) == [0], good)
                if not good and byte != 10:
                    self.assertEqual(judge(text), [-6, 1, 0, 0])

    def test_no_sign_line(self):
        for line in (
            " sign A", "sign  A", "sign A ", "sign\tA", "sign A B", "Sign A", "SIGN A", "signA", "sig A", "signs A",
            "stroke A", "A", "sign A\r", "stroke 0,0 1,0",
        ):
            with self.subTest(line=line):
                self.assertEqual(judged(line + "\n" + GOOD), [-6, 1, 0, 0])


class StrokeLine(unittest.TestCase):
    def test_no_stroke_line(self):
        for line in (
            "sign B", "stroke", "stroke ", "stroke 0,0", "stroke 0,0 ", " stroke 0,0 1,0", "stroke  0,0 1,0",
            "stroke 0,0  1,0", "stroke 0,0 1,0 ", "stroke\t0,0 1,0", "stroke 0,0\t1,0", "Stroke 0,0 1,0",
            "strokes 0,0 1,0", "strok 0,0 1,0", "stroke0,0 1,0", "0,0 1,0", "stroke 0,0 1,0\r", "sign 0,0 1,0",
        ):
            with self.subTest(line=line):
                self.assertEqual(judged("sign A\n" + line + "\n"), [-6, 1, 1, 0])
                self.assertEqual(judged("sign A\nstroke 7,7 8,8\n" + line + "\n" + GOOD), [-6, 1, 2, 0])

    def test_no_point(self):
        for point in (
            "1", "1,", ",1", ",", "1,2,3", "1,2,", ",1,2", "1,,2", "1.2", "1;2", "-1,2", "1,-2", "+1,2", "1,+2", "a,1",
            "1,a", "0x1,2", "1e1,2", "1_0,2", "01,2", "1,02", "00,1", "1,00", "1/,2", "1:,2", "\xb2,1", "1,\xb9",
            "00000000000000,1",
        ):
            with self.subTest(point=point):
                self.assertEqual(judged(f"sign A\nstroke {point} 50,60\n"), [-6, 1, 1, 0])
                self.assertEqual(judged(f"sign A\nstroke 50,60 70,80 {point}\n"), [-6, 1, 1, 0])

    def test_how_many_points(self):
        def row(many):
            return [[(x, 0) for x in range(many)]]

        self.assertEqual(judge(text_of(row(1))), [-6, 1, 1, 0])
        self.assertEqual(judge(text_of(row(2))), [0])
        self.assertEqual(judge(text_of(row(65))), [0])
        self.assertEqual(judge(text_of(row(66))), [-6, 1, 1, 0])

    def test_66_points_are_kind_1_behind_other_strokes_too(self):
        strokes = rungs(3) + [[(x, 9) for x in range(66)]]
        self.assertEqual(judge(text_of(strokes)), [-6, 1, 4, 0])


class Coordinates(unittest.TestCase):
    def test_the_largest(self):
        self.assertEqual(judged("sign A\nstroke 4095,4095 0,0\n"), [0])
        self.assertEqual(judged("sign A\nstroke 4096,0 0,0\n"), [-6, 2, 1, 0])
        self.assertEqual(judged("sign A\nstroke 0,4096 0,0\n"), [-6, 2, 1, 0])
        self.assertEqual(judged("sign A\nstroke 0,0 4095,4096\n"), [-6, 2, 1, 1])
        self.assertEqual(judged("sign A\nstroke 0,0 9999,1\n"), [-6, 2, 1, 1])
        self.assertEqual(judged("sign A\nstroke 0,0 10000,1\n"), [-6, 2, 1, 1])

    def test_which_is_the_first_such_point(self):
        self.assertEqual(judged("sign A\n" + GOOD + "stroke 0,3 1,3 5,5000 6000,1 2,2\n"), [-6, 2, 2, 2])

    def test_numbers_of_very_many_digits(self):
        for digits in (5, 20, 4299, 4301, 60000):
            with self.subTest(digits=digits):
                self.assertEqual(judged("sign A\nstroke 0,0 1,1" + "0" * (digits - 1) + "\n"), [-6, 2, 1, 1])
                self.assertEqual(judged("sign A\nstroke " + "9" * digits + ",0 1,1\n"), [-6, 2, 1, 0])
                self.assertEqual(judged("sign A\nstroke 1,1 " + "0" * digits + ",0\n"), [-6, 1, 1, 0])

    def test_no_number_wraps_around(self):
        for number in (2**16, 2**32, 2**32 + 5, 2**64, 2**64 + 1):
            with self.subTest(number=number):
                self.assertEqual(judged(f"sign A\nstroke 0,0 {number},1\n"), [-6, 2, 1, 1])

    def test_kind_1_comes_before_kind_2(self):
        self.assertEqual(judged("sign A\nstroke 5000,0 01,0\n"), [-6, 1, 1, 0])
        self.assertEqual(judged("sign A\nstroke 5000,0\n"), [-6, 1, 1, 0])


class RepeatedPoints(unittest.TestCase):
    def test_which_is_the_later_of_the_two(self):
        self.assertEqual(judged("sign A\nstroke 0,0 0,0\n"), [-6, 3, 1, 1])
        self.assertEqual(judged("sign A\n" + GOOD + "stroke 5,5 6,6 7,7 7,7 7,7\n"), [-6, 3, 2, 3])

    def test_only_points_next_to_one_another_count(self):
        self.assertEqual(judged("sign A\nstroke 0,0 4,0 0,4 0,0\n"), [0])
        self.assertEqual(judged("sign A\nstroke 1,2 2,1\n"), [0])
        self.assertEqual(judged("sign A\nstroke 1,2 3,4\nstroke 3,4 5,9\n"), [0])

    def test_kind_2_comes_before_kind_3(self):
        self.assertEqual(judged("sign A\nstroke 0,0 0,0 4096,0\n"), [-6, 2, 1, 2])
        self.assertEqual(judged("sign A\nstroke 4096,0 4096,0\n"), [-6, 2, 1, 0])

    def test_kind_3_comes_before_kinds_4_and_5(self):
        self.assertEqual(judge(text_of(rungs(64) + [[(9, 9), (9, 9)]])), [-6, 3, 65, 1])
        self.assertEqual(judged("sign A\nstroke 0,0 4,4 0,4 4,0 4,0\n"), [-6, 3, 1, 4])


class HowManyPieces(unittest.TestCase):
    def test_64_strokes_and_65(self):
        self.assertEqual(judge(text_of(rungs(64))), [0])
        self.assertEqual(judge(text_of(rungs(65))), [-6, 4, 65, 0])

    def test_64_pieces_and_65_in_two_strokes(self):
        long = [(x, 100) for x in range(60)]
        self.assertEqual(judge(text_of([long] + rungs(5))), [0])
        self.assertEqual(judge(text_of([long] + rungs(6))), [-6, 4, 7, 0])
        self.assertEqual(judge(text_of([long, [(x, 90) for x in range(6)]])), [0])
        self.assertEqual(judge(text_of([long, [(x, 90) for x in range(7)]])), [-6, 4, 2, 0])

    def test_kind_4_comes_before_kinds_5_and_6(self):
        self.assertEqual(judge(text_of(rungs(64) + [[(1, 0), (1, 5)]])), [-6, 4, 65, 0])
        self.assertEqual(judge(text_of(rungs(63) + [[(1, 0), (1, 5), (2, 9)]])), [-6, 4, 64, 0])


class WhichLine(unittest.TestCase):
    def test_the_first_wrong_line_is_told_whatever_its_kind(self):
        self.assertEqual(judged("sign A\nstroke 0,0 4096,0\nbad\n"), [-6, 2, 1, 1])
        self.assertEqual(judged("sign A\nstroke 0,0 0,0\nstroke 0,0 4096,0\n"), [-6, 3, 1, 1])
        self.assertEqual(judged("sign A\nstroke 0,0 4,4 0,4 4,0\nbad\n"), [-6, 5, 1, 2])
        self.assertEqual(judged("sign A\nstroke 0,0 4,4\nstroke 0,4 4,0\nx"), [-6, 5, 2, 1])
        self.assertEqual(judged("sign -\nstroke 0,0 0,0\n"), [-6, 1, 0, 0])

    def test_faults_of_the_last_line(self):
        self.assertEqual(judge(text_of(rungs(63) + [[(1, 1), (1, 1)]])), [-6, 3, 64, 1])


class LongTexts(unittest.TestCase):
    def test_65536_bytes_are_judged_and_65537_are_refused(self):
        start = "sign A\nstroke 0,0 1,"
        for length, answer in ((65535, [-6, 2, 1, 1]), (65536, [-6, 2, 1, 1]), (65537, [-2]), (65600, [-2])):
            with self.subTest(length=length):
                text = bytes_of(start + "1" * (length - len(start) - 1) + "\n")
                self.assertEqual(len(text), length)
                self.assertEqual(judge(text), answer)

    def test_the_same_byte_65536_times(self):
        for byte in (0, 9, 10, 13, 32, 44, 48, 65, 115, 255):
            self.assertEqual(judge([byte] * 65536), [-6, 1, 0, 0])

    def test_too_long_comes_before_every_fault(self):
        self.assertEqual(judge([0] * 65537), [-2])
        self.assertEqual(judge([10] * 65600), [-2])

    def test_a_drawing_with_bytes_behind_it(self):
        text = text_of(rungs(3))
        self.assertEqual(judge(text + [120] * (65536 - len(text))), [-6, 1, 4, 0])
        self.assertEqual(judge(text + [10] * (65536 - len(text))), [-6, 1, 4, 0])
        self.assertEqual(judge(text + [10] * (65537 - len(text))), [-2])


class OneText(unittest.TestCase):
    # A drawing has one text: no other text near it tells a drawing that is the same.
    def test_taking_out_or_doubling_a_byte_that_is_no_digit_or_letter(self):
        text = text_of([[(10, 20), (31, 45), (7, 8)], [(100, 200), (300, 4095)]], "Ab1")
        self.assertEqual(judge(text), [0])
        for place, byte in enumerate(text):
            if byte in (10, 32, 44):
                self.assertEqual(judge(text[:place] + text[place + 1:])[0], -6, place)
                self.assertEqual(judge(text[:place] + [byte] + text[place:])[0], -6, place)

    def test_needless_zeros_at_every_place(self):
        text = text_of([[(10, 20), (31, 45), (7, 0)]])
        for place in range(len(text)):
            if 48 <= text[place] <= 57 and not 48 <= text[place - 1] <= 57:
                self.assertEqual(judge(text[:place] + [48] + text[place:]), [-6, 1, 1, 0])


if __name__ == "__main__":
    unittest.main()

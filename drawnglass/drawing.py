"""Drawings: how a text is read and judged, how pieces meet, and the joints and parts they make.

A point is a tuple (x, y), a stroke a list of points, a piece a tuple of its first and second end.
"""

LINE_END = 10
BLANK = 32
COMMA = 44
ZERO = 48
NINE = 57

LONGEST_NAME = 12
LEAST_POINTS = 2
MOST_POINTS = 65
MOST_PIECES = 64
HIGHEST_DEGREE = 8
LARGEST_COORDINATE = 4095
MOST_DIGITS = 4

WRONG_LINE = 1
COORDINATE_TOO_LARGE = 2
POINT_REPEATED = 3
TOO_MANY_PIECES = 4
MEETS_BADLY = 5
NINTH_AT_POINT = 6


# The fault of a text as (kind, line, which), or None if the text tells a drawing.
def fault_of(t):
    lines = lines_of(t)
    if not is_sign_line(lines[0]):
        return (WRONG_LINE, 0, 0)
    pieces = []
    for number in range(1, len(lines)):
        points = points_of(lines[number])
        if points is None:
            return (WRONG_LINE, number, 0)
        fault = stroke_fault(points, pieces)
        if fault is not None:
            return (fault[0], number, fault[1])
        pieces.extend(stroke_pieces(points))
    return None


# The strokes of a text that has no fault.
def strokes_of(t):
    return [points_of(line) for line in lines_of(t)[1:]]


# A line that is missing, or whose byte 10 is missing, is put as an empty line:
# an empty line is always wrong, and wrong in just the way such a line is.
def lines_of(t):
    lines = split_at(t, LINE_END)
    unended = lines.pop()
    if len(unended) > 0 or len(lines) < 2:
        lines.append([])
    return lines


def split_at(run, mark):
    shares = [[]]
    for byte in run:
        if byte == mark:
            shares.append([])
        else:
            shares[-1].append(byte)
    return shares


def is_sign_line(line):
    words = split_at(line, BLANK)
    return len(words) == 2 and spells(words[0], "sign") and is_name(words[1])


# The points of a line with `stroke`, or None if it is no such line.
def points_of(line):
    words = split_at(line, BLANK)
    if not spells(words[0], "stroke") or not LEAST_POINTS <= len(words) - 1 <= MOST_POINTS:
        return None
    points = [point_of(word) for word in words[1:]]
    if None in points:
        return None
    return points


def point_of(word):
    numbers = split_at(word, COMMA)
    if len(numbers) != 2 or not is_number(numbers[0]) or not is_number(numbers[1]):
        return None
    return (coordinate_of(numbers[0]), coordinate_of(numbers[1]))


def spells(word, text):
    return word == [ord(letter) for letter in text]


def is_name(word):
    return 1 <= len(word) <= LONGEST_NAME and all([is_letter(byte) or is_digit(byte) for byte in word])


def is_number(word):
    if len(word) == 0 or not all([is_digit(byte) for byte in word]):
        return False
    return len(word) == 1 or word[0] != ZERO


def is_letter(byte):
    return ord("A") <= byte <= ord("Z") or ord("a") <= byte <= ord("z")


def is_digit(byte):
    return ZERO <= byte <= NINE


# A number with more digits than the largest coordinate is too large whatever they are,
# and working it out could take very long: the least one that is too large stands for it.
def coordinate_of(digits):
    if len(digits) > MOST_DIGITS:
        return LARGEST_COORDINATE + 1
    value = 0
    for digit in digits:
        value = value * 10 + digit - ZERO
    return value


# What is wrong with a stroke behind the pieces before it, as (kind, which), or None.
# A kind is asked for only when those ahead of it are not there: the order is the document's.
def stroke_fault(points, before):
    which = first_true([not is_point(point) for point in points])
    if which is not None:
        return (COORDINATE_TOO_LARGE, which)
    which = first_true([one == other for one, other in stroke_pieces(points)])
    if which is not None:
        return (POINT_REPEATED, which + 1)
    pieces = before + stroke_pieces(points)
    if len(pieces) > MOST_PIECES:
        return (TOO_MANY_PIECES, 0)
    added = list(range(len(before), len(pieces)))
    which = first_true([meets_one_badly(pieces[number], pieces[:number]) for number in added])
    if which is not None:
        return (MEETS_BADLY, added[which])
    which = first_true([is_one_too_many(pieces[number], pieces[:number]) for number in added])
    if which is not None:
        return (NINTH_AT_POINT, added[which])
    return None


def first_true(answers):
    for number, answer in enumerate(answers):
        if answer:
            return number
    return None


# Whether a pair of numbers from 0 on is a point.
def is_point(pair):
    return max(pair) <= LARGEST_COORDINATE


# Whether two pairs of numbers from 0 on are the ends of a piece.
def is_piece(pairs):
    return is_point(pairs[0]) and is_point(pairs[1]) and pairs[0] != pairs[1]


def stroke_pieces(points):
    return list(zip(points, points[1:]))


def pieces_of(strokes):
    pieces = []
    for points in strokes:
        pieces.extend(stroke_pieces(points))
    return pieces


# Whether a drawing of the others may have the piece too, but for how many there are.
def fits(piece, others):
    return not meets_one_badly(piece, others) and not is_one_too_many(piece, others)


def meets_one_badly(piece, others):
    return any([meets_badly(piece, other) for other in others])


# Pieces on one line that share more than a point either have the same two ends,
# or one of the four ends lies in the midst of the other piece: so these tests leave out none.
def meets_badly(one, other):
    if divides(one, other) and divides(other, one):
        return True
    if ends_in_midst(one, other) or ends_in_midst(other, one):
        return True
    return one[0] in other and one[1] in other


# Whether the whole line through one has the other's ends on its two sides.
def divides(one, other):
    return side(one, other[0]) * side(one, other[1]) < 0


def ends_in_midst(one, other):
    return any([end not in other and lies_on(end, other) for end in one])


def lies_on(point, piece):
    first = piece[0]
    second = piece[1]
    if side(piece, point) != 0:
        return False
    return is_between(point[0], first[0], second[0]) and is_between(point[1], first[1], second[1])


# 0 if the point is on the whole line through the piece, else above 0 on its one side and below 0 on the other.
def side(piece, point):
    first = piece[0]
    second = piece[1]
    along = (second[0] - first[0]) * (point[1] - first[1])
    across = (second[1] - first[1]) * (point[0] - first[0])
    return along - across


def is_between(value, one, other):
    return min(one, other) <= value <= max(one, other)


def is_one_too_many(piece, others):
    return any([degree(point, others) >= HIGHEST_DEGREE for point in piece])


def degree(point, pieces):
    return len(ending_at(point, pieces))


# The numbers of the pieces that end at the point, rising.
def ending_at(point, pieces):
    return [number for number, piece in enumerate(pieces) if point in piece]


def joints_of(pieces):
    met = {}
    for piece in pieces:
        met[piece[0]] = True
        met[piece[1]] = True
    return sorted(list(met), key=lambda point: (point[1], point[0]))


# For each piece the least piece of its part: pieces of one part, and they alone, have the same.
def least_mates(pieces):
    least = []
    for number, piece in enumerate(pieces):
        touched = [least[k] for k in range(number) if shares_end(piece, pieces[k])]
        lowest = min(touched, default=number)
        least = [lowest if mate in touched else mate for mate in least] + [lowest]
    return least


def shares_end(one, other):
    return one[0] in other or one[1] in other

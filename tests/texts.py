"""What the tests share: texts as lists of bytes, and an answer to 'how do two pieces meet' got another way."""

from fractions import Fraction
from itertools import product


def bytes_of(words):
    return list(words.encode("latin-1"))


def stroke_line(points):
    return "stroke " + " ".join(f"{x},{y}" for x, y in points) + "\n"


def text_of(strokes, name="A"):
    return bytes_of(f"sign {name}\n" + "".join(stroke_line(points) for points in strokes))


# Strokes of one piece each that share nothing: side by side, one unit apart.
def rungs(many):
    return [[(0, y), (5, y)] for y in range(many)]


# Directions of which no two are alike, so that pieces along them meet at their shared end alone.
DIRECTIONS = [(1, 0), (0, 1), (-1, 0), (0, -1), (1, 1), (-1, 1), (-1, -1), (1, -1), (2, 1), (1, 2)]


def star(many, centre=(100, 100)):
    return [[centre, (centre[0] + dx, centre[1] + dy)] for dx, dy in DIRECTIONS[:many]]


# All pieces between the points of a small grid, in both directions.
def grid_pieces(side):
    points = list(product(range(side), repeat=2))
    return [(a, b) for a in points for b in points if a != b]


# The points that two pieces share: as parameters along the first, from the definition, in exact
# fractions. None if there's none, else the least and the greatest point.
def shared_span(one, other):
    (ax, ay), (bx, by) = one
    (cx, cy), (dx, dy) = other
    ux, uy, vx, vy = bx - ax, by - ay, dx - cx, dy - cy
    wx, wy = cx - ax, cy - ay
    turn = ux * vy - uy * vx
    if turn != 0:
        s = Fraction(wx * vy - wy * vx, turn)
        r = Fraction(wx * uy - wy * ux, turn)
        if not (0 <= s <= 1 and 0 <= r <= 1):
            return None
        low = high = s
    else:
        if wx * uy - wy * ux != 0:
            return None
        length = ux * ux + uy * uy
        ends = sorted(Fraction((x - ax) * ux + (y - ay) * uy, length) for x, y in other)
        low, high = max(Fraction(0), ends[0]), min(Fraction(1), ends[1])
        if low > high:
            return None
    return [(ax + s * ux, ay + s * uy) for s in (low, high)]


def meet_badly_by_definition(one, other):
    span = shared_span(one, other)
    if span is None:
        return False
    return span[0] != span[1] or not (span[0] in one and span[0] in other)

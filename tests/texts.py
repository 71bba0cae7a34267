"""What the tests share: texts as lists of bytes, and an answer to 'how do two pieces meet' got another way."""

from fractions import Fraction
from itertools import product


def bytes_of(words):
    return list(words.encode("latin-1"))


def stroke_line(points):
    return "stroke " + " ".join(f"{x},{y}" for x, y in points) + "\n"


def text_of(strokes, name="A"):
    return bytes_of(f"sign {name}\n" + "".join(stroke_line(points) for points in strokes))


# Strokes of one piece each that share nothing: side by side, one unit apart.
def rungs(many):
    return [[(0, y), (5, y)] for y in range(many)]


# Directions of which no two are alike, so that pieces along them meet at their shared end alone.
DIRECTIONS = [(1, 0), (0, 1), (-1, 0), (0, -1), (1, 1), (-1, 1), (-1, -1), (1, -1), (2, 1), (1, 2)]


def star(many, centre=(100, 100)):
    return [[centre, (centre[0] + dx, centre[1] + dy)] for dx, dy in DIRECTIONS[:many]]


# All pieces between the points of a small grid, in both directions.
def grid_pieces(side):
    points = list(product(range(side), repeat=2))
    return [(a, b) for a in points for b in points if a != b]


# The points that two pieces share: as parameters along the first, from the definition, in exact
# fractions. None if there's none, else the least and the greatest point.
def shared_span(one, other):
    (ax, ay), (bx, by) = one
    (cx, cy), (dx, dy) = other
    ux, uy, vx, vy = bx - ax, by - ay, dx - cx, dy - cy
    wx, wy = cx - ax, cy - ay
    turn = ux * vy - uy * vx
    if turn != 0:
        s = Fraction(wx * vy - wy * vx, turn)
        r = Fraction(wx * uy - wy * ux, turn)
        if not (0 <= s <= 1 and 0 <= r <= 1):
            return None
        low = high = s
    else:
        if wx * uy - wy * ux != 0:
            return None
        length = ux * ux + uy * uy
        ends = sorted(Fraction((x - ax) * ux + (y - ay) * uy, length) for x, y in other)
        low, high = max(Fraction(0), ends[0]), min(Fraction(1), ends[1])
        if low > high:
            return None
    return [(ax + s * ux, ay + s * uy) for s in (low, high)]


def meet_badly_by_definition(one, other):
    span = shared_span(one, other)
    if span is None:
        return False
    return span[0] != span[1] or not (span[0] in one and span[0] in other)


# Drawings got by trying pieces one after another and keeping those that fit, from a fixed row of numbers.
# Chained: every other piece begins where the last stroke ends, if it fits there, and is of that stroke.
def grown_drawing(seed, grid, most, chained=False):
    strokes = []
    pieces = []
    number = seed
    for step in range(400):
        row = []
        for place in range(4):
            number = (number * 1103515245 + 12345) % 2**31
            row.append((number >> 12) % grid)
        goes_on = chained and step % 2 == 1 and len(strokes) > 0
        piece = (strokes[-1][-1] if goes_on else (row[0], row[1]), (row[2], row[3]))
        if piece[0] == piece[1] or len(pieces) == most:
            continue
        crowded = any(sum(point in other for other in pieces) == 8 for point in piece)
        if crowded or any(meet_badly_by_definition(piece, other) for other in pieces):
            continue
        pieces.append(piece)
        if goes_on:
            strokes[-1].append(piece[1])
        else:
            strokes.append(list(piece))
    return strokes


# The pieces of strokes, as the document numbers them.
def pieces_by_hand(strokes):
    return [(points[k], points[k + 1]) for points in strokes for k in range(len(points) - 1)]


# The parts by walking from a piece to all that share an end with one reached: sets of pieces' numbers.
def parts_by_walking(pieces):
    left = list(range(len(pieces)))
    parts = []
    while left:
        reached = [left.pop(0)]
        for k in reached:
            near = [other for other in left if set(pieces[other]) & set(pieces[k])]
            left = [other for other in left if other not in near]
            reached.extend(near)
        parts.append(sorted(reached))
    return parts


# Drawings of many kinds, for what must hold in each.
MANY_DRAWINGS = [grown_drawing(seed, (5, 12, 60, 4096)[seed % 4], 24, chained=seed % 3 > 0) for seed in range(16)] + [
    [[(0, 0), (1, 0)]],
    [[(0, 0), (9, 0), (9, 9), (0, 9), (0, 0)]],
    [[(4095, 4095), (0, 4095), (0, 0), (4095, 0)]],
    [[(x, x % 2) for x in range(65)]],
    star(8),
    star(8) + star(7, (200, 100)),
]


# Texts that are no drawing's, of each kind of fault.
NO_DRAWINGS = (
    [],
    bytes_of("sign A\n"),
    bytes_of("sign A\nstroke 0,0 1,0"),
    bytes_of("sign A\nstroke 0,0 1,0\nx"),
    bytes_of("sign A\nstroke 0,0 4096,0\n"),
    text_of([[(0, 0), (0, 0)]]),
    text_of(rungs(65)),
    text_of([[(0, 0), (4, 4)], [(0, 4), (4, 0)]]),
    text_of(star(9)),
    [10] * 65536,
)

# Texts of more than 65,536 bytes: no more than a drawing with lines behind it, and no drawing at all.
TOO_LONG = (
    (text_of([[(0, 0), (1, 0)]]) + [10] * 65600)[:65537],
    [255] * 65537,
    [10] * 65600,
)

LARGEST_NUMBER = 4294967295

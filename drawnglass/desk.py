"""The calls: each gives back a list, the answer and then the further numbers."""

from drawnglass.drawing import degree, ending_at, fault_of, joints_of, least_mates, pieces_of, strokes_of
from drawnglass.drawing import first_true, fits, is_piece, is_point, lies_on, meets_badly, shares_end

LONGEST_TEXT = 65536

WRONG_POINT = -1
TOO_LONG = -2
NOT_THERE = -4
NONE_LIES_THERE = -5
NO_DRAWING = -6

APART = 0
AT_ENDS_ALONE = 1
BADLY = 2
NO_PIECES = 3


def judge(t):
    if len(t) > LONGEST_TEXT:
        return [TOO_LONG]
    fault = fault_of(t)
    if fault is None:
        return [0]
    return [NO_DRAWING] + list(fault)


def size(t):
    refusal = text_refusal(t)
    if refusal is not None:
        return refusal
    strokes = strokes_of(t)
    pieces = pieces_of(strokes)
    parts = len(set(least_mates(pieces)))
    return [0, len(strokes), len(pieces), len(joints_of(pieces)), parts]


def piece(i, t):
    refusal = text_refusal(t)
    if refusal is not None:
        return refusal
    pieces = pieces_of(strokes_of(t))
    if i >= len(pieces):
        return [NOT_THERE]
    first = pieces[i][0]
    second = pieces[i][1]
    joints = joints_of(pieces)
    return [0] + list(first) + list(second) + [joints.index(first), joints.index(second)]


def joint(j, t):
    refusal = text_refusal(t)
    if refusal is not None:
        return refusal
    pieces = pieces_of(strokes_of(t))
    joints = joints_of(pieces)
    if j >= len(joints):
        return [NOT_THERE]
    return [0] + list(joints[j]) + [degree(joints[j], pieces)]


def ends(j, t):
    refusal = text_refusal(t)
    if refusal is not None:
        return refusal
    pieces = pieces_of(strokes_of(t))
    joints = joints_of(pieces)
    if j >= len(joints):
        return [NOT_THERE]
    ending = ending_at(joints[j], pieces)
    return [len(ending)] + ending


def part(i, t):
    refusal = text_refusal(t)
    if refusal is not None:
        return refusal
    pieces = pieces_of(strokes_of(t))
    if i >= len(pieces):
        return [NOT_THERE]
    least = least_mates(pieces)
    parts = sorted(set(least))
    return [parts.index(least[i])] + [k for k in range(len(pieces)) if least[k] == least[i]]


def at(x, y, t):
    refusal = text_refusal(t)
    if refusal is not None:
        return refusal
    if not is_point((x, y)):
        return [WRONG_POINT]
    pieces = pieces_of(strokes_of(t))
    number = first_true([lies_on((x, y), one) for one in pieces])
    if number is None:
        return [NONE_LIES_THERE]
    return [number]


def free(x, y, z, w, t):
    refusal = text_refusal(t)
    if refusal is not None:
        return refusal
    added = ((x, y), (z, w))
    if not is_piece(added):
        return [WRONG_POINT]
    if fits(added, pieces_of(strokes_of(t))):
        return [1]
    return [0]


def cross(x, y, z, w, p, q, r, s):
    one = ((x, y), (z, w))
    other = ((p, q), (r, s))
    if not is_piece(one) or not is_piece(other):
        return [NO_PIECES]
    if meets_badly(one, other):
        return [BADLY]
    if shares_end(one, other):
        return [AT_ENDS_ALONE]
    return [APART]


# What a call other than judge answers to a text that it refuses, else None.
def text_refusal(t):
    verdict = judge(t)
    if verdict[0] == 0:
        return None
    return verdict[:1]

"""The calls: each gives back a list, the answer and then the further numbers."""

from drawnglass.drawing import degree, ending_at, fault_of, joints_of, least_mates, pieces_of, strokes_of

LONGEST_TEXT = 65536

TOO_LONG = -2
NOT_THERE = -4
NO_DRAWING = -6


def judge(t):
    if len(t) > LONGEST_TEXT:
        return [TOO_LONG]
    fault = fault_of(t)
    if fault is None:
        return [0]
    return [NO_DRAWING] + list(fault)


def size(t):
    refusal = text_refusal(t)
    if refusal is not None:
        return refusal
    strokes = strokes_of(t)
    pieces = pieces_of(strokes)
    parts = len(set(least_mates(pieces)))
    return [0, len(strokes), len(pieces), len(joints_of(pieces)), parts]


def piece(i, t):
    refusal = text_refusal(t)
    if refusal is not None:
        return refusal
    pieces = pieces_of(strokes_of(t))
    if i >= len(pieces):
        return [NOT_THERE]
    first = pieces[i][0]
    second = pieces[i][1]
    joints = joints_of(pieces)
    return [0] + list(first) + list(second) + [joints.index(first), joints.index(second)]


def joint(j, t):
    refusal = text_refusal(t)
    if refusal is not None:
        return refusal
    pieces = pieces_of(strokes_of(t))
    joints = joints_of(pieces)
    if j >= len(joints):
        return [NOT_THERE]
    return [0] + list(joints[j]) + [degree(joints[j], pieces)]


def ends(j, t):
    refusal = text_refusal(t)
    if refusal is not None:
        return refusal
    pieces = pieces_of(strokes_of(t))
    joints = joints_of(pieces)
    if j >= len(joints):
        return [NOT_THERE]
    ending = ending_at(joints[j], pieces)
    return [len(ending)] + ending


def part(i, t):
    refusal = text_refusal(t)
    if refusal is not None:
        return refusal
    pieces = pieces_of(strokes_of(t))
    if i >= len(pieces):
        return [NOT_THERE]
    least = least_mates(pieces)
    number = sorted(set(least)).index(least[i])
    return [number] + [k for k in range(len(pieces)) if least[k] == least[i]]


# What a call other than judge answers to a text that it refuses, else None.
def text_refusal(t):
    verdict = judge(t)
    if verdict[0] == 0:
        return None
    return verdict[:1]

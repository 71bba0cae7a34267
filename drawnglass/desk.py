"""The calls: each takes a text and gives back the answer and then the further numbers."""

from drawnglass.drawing import fault_of, joints_of, least_mates, pieces_of, strokes_of

LONGEST_TEXT = 65536

TOO_LONG = -2
NO_DRAWING = -6


def judge(t):
    if len(t) > LONGEST_TEXT:
        return [TOO_LONG]
    fault = fault_of(t)
    if fault is None:
        return [0]
    return [NO_DRAWING] + list(fault)


def size(t):
    verdict = judge(t)
    if verdict[0] != 0:
        return verdict[:1]
    strokes = strokes_of(t)
    pieces = pieces_of(strokes)
    parts = len(set(least_mates(pieces)))
    return [0, len(strokes), len(pieces), len(joints_of(pieces)), parts]

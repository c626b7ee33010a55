"""The calls: each takes texts and whole numbers and answers a list of whole numbers."""

from fieldmend.texts import (
    LINE_END,
    MISSING,
    MOST_CHART_BYTES,
    MOST_RULE_BYTES,
    chart_fault,
    rule_fault,
)


def judge(t):
    if len(t) > MOST_CHART_BYTES:
        return [-2]
    place = chart_fault(t)
    if place is not None:
        return [-6, place]
    return [t.count(MISSING)]


def rule(r):
    if len(r) > MOST_RULE_BYTES:
        return [-2]
    place = rule_fault(r)
    if place is not None:
        return [-6, place]
    # Each move is one line, so the line ends count the moves.
    return [r.count(LINE_END)]

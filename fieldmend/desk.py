"""The calls: each takes texts and whole numbers and answers a list of whole numbers."""

from fieldmend.orbits import (
    Field,
    all_can_act,
    clashing_places,
    filled_knots,
    first_knots,
    mended_knots,
    mending_cost,
    orbit_knots,
    orbit_sizes,
    seed_knots,
)
from fieldmend.texts import (
    LINE_END,
    MISSING,
    MOST_CHART_BYTES,
    MOST_RULE_BYTES,
    chart_fault,
    chart_text,
    is_colour,
    rule_fault,
)


def judge(t):
    if len(t) > MOST_CHART_BYTES:
        return [-2]
    place = chart_fault(t)
    if place is not None:
        return [-6, place]
    return [t.count(MISSING)]


def rule(r):
    if len(r) > MOST_RULE_BYTES:
        return [-2]
    place = rule_fault(r)
    if place is not None:
        return [-6, place]
    # Each move is one line, so the line ends count the moves.
    return [r.count(LINE_END)]


# What every call on a chart and a rule refuses, in the document's order; 0 where that is nothing.
def refusal(t, r):
    if len(t) > MOST_CHART_BYTES or len(r) > MOST_RULE_BYTES:
        return -2
    if chart_fault(t) is not None or rule_fault(r) is not None:
        return -6
    if not all_can_act(t, r):
        return -3
    return 0


def column_and_row(field, place):
    return [place % field.width, place // field.width]


def text_answer(field, knots):
    t = chart_text(knots, field.width)
    return [len(t)] + t


def size(t, r):
    refused = refusal(t, r)
    if refused < 0:
        return [refused]
    field = Field(t, r)
    sizes = orbit_sizes(field)
    return [0, len(sizes), max(sizes.values()), len(first_knots(field)), len(clashing_places(field))]


def of(x, y, t, r):
    refused = refusal(t, r)
    if refused < 0:
        return [refused]
    field = Field(t, r)
    if x >= field.width or y >= field.height:
        return [-4]
    first = field.firsts[y * field.width + x]
    places = field.firsts.count(first)
    return [0] + column_and_row(field, first) + [places, len(orbit_knots(field, first))]


def clash(t, r):
    refused = refusal(t, r)
    if refused < 0:
        return [refused]
    field = Field(t, r)
    clashing = clashing_places(field)
    if len(clashing) == 0:
        return [-5]
    leader = first_knots(field)[field.firsts[clashing[0]]]
    return [0] + column_and_row(field, clashing[0]) + column_and_row(field, leader)


def fill(ground, t, r):
    refused = refusal(t, r)
    if refused < 0:
        return [refused]
    if ground != 0 and not is_colour(ground):
        return [-1]
    field = Field(t, r)
    if len(clashing_places(field)) > 0:
        return [-9]
    return text_answer(field, filled_knots(field, MISSING if ground == 0 else ground))


def seeds(t, r):
    refused = refusal(t, r)
    if refused < 0:
        return [refused]
    field = Field(t, r)
    return text_answer(field, seed_knots(field))


def mend(t, r):
    refused = refusal(t, r)
    if refused < 0:
        return [refused]
    field = Field(t, r)
    return text_answer(field, mended_knots(field))


def cost(t, r):
    refused = refusal(t, r)
    if refused < 0:
        return [refused]
    return [mending_cost(Field(t, r))]

"""Worn charts with the orbits that a rule's moves make of their places.

Places are numbered in order: row by row from the top, in a row from the left.
"""

from fieldmend.texts import MISSING, chart_height, chart_knots, chart_width, colour_number, rule_moves


class Field:
    def __init__(self, t, r):
        self.width = chart_width(t)
        self.height = chart_height(t)
        self.knots = chart_knots(t)
        # For each place the first place of its orbit, which stands for the orbit.
        self.firsts = first_places(self.width, self.height, rule_moves(r))


# A turn by a quarter, or over a diagonal, makes columns of rows.
def can_act(turn, width, height):
    return turn % 2 == 0 or width == height


def all_can_act(t, r):
    width = chart_width(t)
    height = chart_height(t)
    return all([can_act(turn, width, height) for turn, a, b in rule_moves(r)])


def turned(turn, x, y):
    turns = ((x, y), (-y, x), (-x, -y), (y, -x), (-x, y), (-y, -x), (x, -y), (y, x))
    return turns[turn]


# A move is (m, a, b) and a turned place (X, Y), as the document writes them.
def move_target(move, x, y, width, height):
    spot = turned(move[0], x, y)
    column = (spot[0] + move[1]) % width
    row = (spot[1] + move[2]) % height
    return row * width + column


# The target's column hangs on the place's column or on its row, never on both,
# and its row on the other one: so where the upper row and the left column go
# tells where all the places go.
def move_targets(move, width, height):
    upper = [move_target(move, x, 0, width, height) for x in range(width)]
    targets = []
    for y in range(height):
        shift = move_target(move, 0, y, width, height) - upper[0]
        targets.extend([target + shift for target in upper])
    return targets


def first_places(width, height, moves):
    ways = [move_targets(move, width, height) for move in moves]
    firsts = [None] * (width * height)
    for place in range(width * height):
        if firsts[place] is None:
            mark_orbit(place, ways, firsts)
    return firsts


# No move takes two places to one, so each leads round in circles: going it
# forwards often enough goes it backwards, and forwards alone finds all.
def mark_orbit(first, ways, firsts):
    firsts[first] = first
    waiting = [first]
    while len(waiting) > 0:
        place = waiting.pop()
        for targets in ways:
            target = targets[place]
            if firsts[target] is None:
                firsts[target] = first
                waiting.append(target)


# From each orbit's first place to how many places it has.
def orbit_sizes(field):
    sizes = {}
    for first in field.firsts:
        sizes[first] = sizes.get(first, 0) + 1
    return sizes


# From the first place of each orbit with knots to where the first of them is.
def first_knots(field):
    leaders = {}
    for place, knot in enumerate(field.knots):
        if knot != MISSING:
            leaders.setdefault(field.firsts[place], place)
    return leaders


def clashing_places(field):
    leaders = first_knots(field)
    clashing = []
    for place, knot in enumerate(field.knots):
        if knot != MISSING and knot != field.knots[leaders[field.firsts[place]]]:
            clashing.append(place)
    return clashing


def orbit_knots(field, first):
    knots = [field.knots[place] for place in range(len(field.knots)) if field.firsts[place] == first]
    return [knot for knot in knots if knot != MISSING]


# Beside the knots that are there, an orbit's first knot tells all of it; the
# ground is for orbits that have none.
def filled_knots(field, ground):
    leaders = first_knots(field)
    filled = list(field.knots)
    for place, first in enumerate(field.firsts):
        if filled[place] == MISSING:
            filled[place] = field.knots[leaders[first]] if first in leaders else ground
    return filled


# A first place whose knot is missing gives no seed, whatever else its orbit has.
def seed_knots(field):
    return [knot if field.firsts[place] == place else MISSING for place, knot in enumerate(field.knots)]


# From the first place of each orbit with knots to how many it has of each colour.
def colour_tallies(field):
    tallies = {}
    for place, knot in enumerate(field.knots):
        if knot != MISSING:
            tally = tallies.setdefault(field.firsts[place], {})
            tally[knot] = tally.get(knot, 0) + 1
    return tallies


def commonest_colour(tally):
    return min(list(tally), key=lambda colour: (-tally[colour], colour_number(colour)))


def mended_knots(field):
    colours = {}
    for first, tally in colour_tallies(field).items():
        colours[first] = commonest_colour(tally)
    return [colours.get(first, MISSING) for first in field.firsts]


# A missing knot that mending fills gets a colour, but not another one.
def mending_cost(field):
    mended = mended_knots(field)
    return len([knot for place, knot in enumerate(field.knots) if knot != MISSING and knot != mended[place]])

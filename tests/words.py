"""The document's words taken one by one, plainly and slowly, for the tests to hold the program against."""

import random

COLOURS = "abcdefghijklmnopqrstuvwxyzABCDEFGHIJKLMNOPQRSTUVWXYZ0123456789"

TURNS = {
    0: lambda x, y: (x, y),
    1: lambda x, y: (-y, x),
    2: lambda x, y: (-x, -y),
    3: lambda x, y: (y, -x),
    4: lambda x, y: (-x, y),
    5: lambda x, y: (-y, -x),
    6: lambda x, y: (x, -y),
    7: lambda x, y: (y, x),
}


class Worn:
    """A worn chart under a rule, both written with / for byte 10."""

    def __init__(self, chart, rule):
        rows = chart.split("/")[:-1]
        self.width = len(rows[0])
        self.height = len(rows)
        self.places = [(x, y) for y in range(self.height) for x in range(self.width)]
        self.colour = {(x, y): rows[y][x] for x, y in self.places}
        self.moves = [tuple(int(number) for number in line.split(" ")) for line in rule.split("/")[:-1]]
        self.orbits = self.part()

    def moved(self, move, place):
        m, a, b = move
        x, y = TURNS[m](*place)
        return (x + a) % self.width, (y + b) % self.height

    def part(self):
        """The orbits, each a list of places in order, themselves in the order of their first places."""
        beside = {place: [] for place in self.places}
        for place in self.places:
            for move in self.moves:
                beside[place].append(self.moved(move, place))
                beside[self.moved(move, place)].append(place)
        orbits = []
        for place in self.places:
            if not any(place in orbit for orbit in orbits):
                orbits.append(self.reached(place, beside))
        return orbits

    def reached(self, place, beside):
        found = {place}
        newest = [place]
        while newest:
            newest = [near for old in newest for near in beside[old] if near not in found]
            found.update(newest)
        return [place for place in self.places if place in found]

    def knots(self, orbit):
        return [place for place in orbit if self.colour[place] != "."]

    def clashes(self):
        """Each clash in order, with the knot that it clashes with."""
        found = {}
        for orbit in self.orbits:
            for place in self.knots(orbit):
                if self.colour[place] != self.colour[self.knots(orbit)[0]]:
                    found[place] = self.knots(orbit)[0]
        return [(place, found[place]) for place in self.places if place in found]

    def size(self):
        return [0, len(self.orbits), max(len(orbit) for orbit in self.orbits),
                sum(1 for orbit in self.orbits if self.knots(orbit)), len(self.clashes())]

    def of(self, place):
        [orbit] = [orbit for orbit in self.orbits if place in orbit]
        return [0, *orbit[0], len(orbit), len(self.knots(orbit))]

    def clash(self):
        for place, first in self.clashes():
            return [0, *place, *first]
        return [-5]

    def written(self, colour):
        """The text of the chart with these colours at its places."""
        return "".join("".join(colour[x, y] for x in range(self.width)) + "/" for y in range(self.height))

    def filled(self, ground="."):
        """The text of the chart filled, of one without a clash; a full stop for no ground."""
        colour = dict(self.colour)
        for orbit in self.orbits:
            for place in orbit:
                if colour[place] == ".":
                    colour[place] = self.colour[self.knots(orbit)[0]] if self.knots(orbit) else ground
        return self.written(colour)

    def seeds(self):
        firsts = [orbit[0] for orbit in self.orbits]
        return self.written({place: self.colour[place] if place in firsts else "." for place in self.places})

    def mended(self):
        colour = dict(self.colour)
        for orbit in self.orbits:
            knots = [self.colour[place] for place in self.knots(orbit)]
            if knots:
                most = max(knots.count(one) for one in COLOURS)
                [least, *others] = [one for one in COLOURS if knots.count(one) == most]
                colour.update({place: least for place in orbit})
        return self.written(colour)

    def carried(self, chart):
        """Whether every move of the rule carries this chart into itself."""
        colour = Worn(chart, "").colour
        return all(colour[self.moved(move, place)] == colour[place] for move in self.moves for place in self.places)

    def difference(self, chart):
        """At how many of this chart's knots, not missing ones, the other chart is another."""
        colour = Worn(chart, "").colour
        return sum(1 for place in self.knots(self.places) if colour[place] != self.colour[place])


def drawn(number):
    """The chart and the rule of this number: always the same ones."""
    draw = random.Random(number)
    width = draw.randint(1, 7)
    height = width if draw.random() < 0.6 else draw.randint(1, 7)
    signs = draw.choice([".a", "..a", "..ab", "abc", ".....ab", "." + COLOURS])
    chart = "".join("".join(draw.choice(signs) for x in range(width)) + "/" for y in range(height))
    turns = range(8) if width == height else (0, 2, 4, 6)
    greatest = draw.choice([3, 8, 511])
    moves = draw.choice([0, 1, 1, 1, 2, 2, 3, 4, 16])
    rule = "".join(f"{draw.choice(turns)} {draw.randint(0, greatest)} {draw.randint(0, greatest)}/"
                   for move in range(moves))
    return chart, rule

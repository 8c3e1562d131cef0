"""Chains: numbers below one another, gone through from place to place by what is carried.

Grids, rows and ways are as in places. What is carried from place to place, and what comes
of it at a place, each kind of chain says itself. Ahead of a place are those that are
counted before it, behind it those that are counted after it.
"""

from blotsum.entries import is_number_among
from blotsum.errors import NoFilling, NoNumber


class Chain:
    """Numbers whose fillings are counted by carries: from one first carry to one of the last ones."""

    def __init__(self, grid, first, last):
        self.grid = grid
        self.first = first
        self.last = last

    def through(self, ways, rows):
        """The ways to each carry out of a place, of the ways to each carry into it."""
        raise NotImplementedError("each kind of chain has its own")

    def ways_ahead(self):
        """For each place, and for behind the last, the ways to each carry into it."""
        ahead = [{self.first: 1}]
        for rows in self.grid:
            ahead.append(self.through(ahead[-1], rows))
        return ahead

    def ways_on(self, ways, rows, behind):
        """How many ways lead through a place and on from it."""
        out = self.through(ways, rows)
        return sum([out[carry] * behind.get(carry, 0) for carry in out])

    def ways_behind(self, ways, rows, behind):
        """For each carry into a place how many ways there are on from it."""
        return {carry: self.ways_on({carry: 1}, rows, behind) for carry in ways}

    def tally(self, ways, rows, at, behind):
        """In how many ways each figure of a number stands at a place, figures rising."""
        counts = {}
        for figure in rows[at]:
            settled = [*rows[:at], [figure], *rows[at + 1:]]
            counts[figure] = self.ways_on(ways, settled, behind)
        return counts

    def last_ways(self):
        """Behind the last place: each carry that may be out of it, with one way to be done."""
        return {carry: 1 for carry in self.last}


class Walk:
    """Settles the figures of one number of a chain, from the last place to place 0."""

    def __init__(self, chain, at):
        self.chain = chain
        self.at = at
        self.place = len(chain.grid) - 1
        self.ahead = chain.ways_ahead()
        self.behind = chain.last_ways()

    def counts(self):
        """How many fillings each figure leaves that the number can have at this place."""
        return self.chain.tally(self.ahead[self.place], self.chain.grid[self.place], self.at, self.behind)

    def settle(self, figure):
        """Settle the figure at this place, and go on to the place ahead of it."""
        rows = self.chain.grid[self.place]
        rows[self.at] = [figure]
        self.behind = self.chain.ways_behind(self.ahead[self.place], rows, self.behind)
        self.place -= 1


def fillings_of(chain):
    """How many fillings a chain has."""
    ways = chain.ways_ahead()[-1]
    return sum([ways.get(carry, 0) for carry in chain.last])


def all_tallies(chain):
    """For each place, and for each number there, the tally."""
    ahead = chain.ways_ahead()
    behind = chain.last_ways()
    tallies = []
    for place in reversed(range(len(chain.grid))):
        rows = chain.grid[place]
        tallies.append([chain.tally(ahead[place], rows, at, behind) for at in range(len(rows))])
        behind = chain.ways_behind(ahead[place], rows, behind)
    tallies.reverse()
    return tallies


def chosen(counts, number):
    """The figure whose fillings hold the one of a number, and its number among these."""
    figures = list(counts)
    at = 0
    left = number
    while left >= counts[figures[at]]:
        left -= counts[figures[at]]
        at += 1
    return figures[at], left


def settled_by_number(chain, at, number):
    """A reading in the filling of a number, and its number among those with this reading.

    The reading is settled in the chain.
    """
    walk = Walk(chain, at)
    reading = 0
    left = number
    for step in range(len(chain.grid)):
        figure, left = chosen(walk.counts(), left)
        walk.settle(figure)
        reading = reading * 10 + figure
    return reading, left


def settled_by_reading(chain, at, reading):
    """How many fillings have a lesser reading of a number, which is settled in the chain."""
    walk = Walk(chain, at)
    many = 0
    for sign in str(reading).zfill(len(chain.grid)):
        counts = walk.counts()
        many += sum([counts[figure] for figure in counts if figure < int(sign)])
        walk.settle(int(sign))
    return many


def readings_at(chain, number):
    """The readings of the filling of a number, in order as tuples; all are settled in the chain."""
    among = fillings_of(chain)
    if not is_number_among(number, among):
        raise NoNumber(number, among)
    readings = []
    left = number
    for at in range(len(chain.grid[0])):
        reading, left = settled_by_number(chain, at, left)
        readings.append(reading)
    return readings


def number_of_readings(chain, readings):
    """The number of the filling with these readings; all are settled in the chain."""
    # Each is settled before the next one is looked at, as tuples are ordered.
    return sum([settled_by_reading(chain, at, reading) for at, reading in enumerate(readings)])


def narrowed_spot(spot, counts):
    """The spot with just the figures that stand in some filling."""
    return "".join([figure for figure in spot if counts.get(int(figure), 0) > 0])


def narrowed_entries(chain, entries):
    """The entries, one for each number of the chain, with just the figures that some filling has."""
    if fillings_of(chain) == 0:
        raise NoFilling("there is no filling")
    tallies = all_tallies(chain)
    told = []
    for at, entry in enumerate(entries):
        last = len(entry) - 1
        told.append(tuple([narrowed_spot(spot, tallies[last - k][at]) for k, spot in enumerate(entry)]))
    return told

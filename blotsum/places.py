"""Places of a sum, and the carries between them.

A grid has for each place, from place 0 on, its rows: for each entry, the total last,
the list of the figures that may stand there. Ways are a dict: how many ways lead to
each number, without those to which none leads. Ahead of a place are those that are
counted before it, behind it those that are counted after it.
"""

from blotsum.entries import figures_of

# Into place 0, and out of the last place, there is no carry but 0.
NO_CARRY = {0: 1}


def figures_at(rows, place):
    """The figures at a place of an entry, told by the figures of its spots."""
    if place < len(rows):
        return list(rows[len(rows) - 1 - place])
    return [0]


def grid_of(page):
    """The grid of a sum."""
    parts, total = page
    entries = [figures_of(entry) for entry in (*parts, total)]
    places = max([len(rows) for rows in entries])
    return [[figures_at(rows, place) for rows in entries] for place in range(places)]


def joined(ways, more):
    """The ways to each number that one of these and one of those come to."""
    both = {}
    for number in ways:
        for added in more:
            come = number + added
            both[come] = both.get(come, 0) + ways[number] * more[added]
    return both


def sums_of(rows):
    """The ways to each number that a figure of each row come to."""
    ways = {0: 1}
    for figures in rows:
        ways = joined(ways, {figure: 1 for figure in figures})
    return ways


def carried(ways, totals):
    """The ways to each carry out of a place, of the ways to what comes together there."""
    out = {}
    for come in ways:
        carry, figure = divmod(come, 10)
        if figure in totals:
            out[carry] = out.get(carry, 0) + ways[come]
    return out


def ways_ahead(grid):
    """For each place, and for behind the last, the ways to each carry into it."""
    ahead = [dict(NO_CARRY)]
    for rows in grid:
        ways = joined(ahead[-1], sums_of(rows[:-1]))
        ahead.append(carried(ways, rows[-1]))
    return ahead


def ways_through(ways, totals, added, behind):
    """How many ways there are on from a place, with a number added to what comes together."""
    many = 0
    for come in ways:
        carry, figure = divmod(come + added, 10)
        if figure in totals:
            many += ways[come] * behind.get(carry, 0)
    return many


def ways_behind(rows, carries, behind):
    """For each of the carries into a place how many ways there are on from it."""
    ways = sums_of(rows[:-1])
    return {carry: ways_through(ways, rows[-1], carry, behind) for carry in carries}


def tally(rows, at, ahead, behind):
    """In how many ways each figure of an entry stands at a place, figures rising."""
    parts = rows[:-1]
    totals = rows[-1]
    if at == len(parts):
        ways = joined(ahead, sums_of(parts))
        return {figure: ways_through(ways, [figure], 0, behind) for figure in totals}
    ways = joined(ahead, sums_of(parts[:at] + parts[at + 1:]))
    return {figure: ways_through(ways, totals, figure, behind) for figure in rows[at]}


def all_tallies(grid):
    """For each place, and for each entry there, the tally."""
    ahead = ways_ahead(grid)
    behind = dict(NO_CARRY)
    tallies = []
    for place in reversed(range(len(grid))):
        rows = grid[place]
        tallies.append([tally(rows, at, ahead[place], behind) for at in range(len(rows))])
        behind = ways_behind(rows, ahead[place], behind)
    tallies.reverse()
    return tallies


class PartWalk:
    """Settles the figures of one part in a grid, from the last place to place 0."""

    def __init__(self, grid, part):
        self.grid = grid
        self.part = part
        self.place = len(grid) - 1
        self.ahead = ways_ahead(grid)
        self.behind = dict(NO_CARRY)

    def counts(self):
        """How many fillings each figure leaves that the part can have at this place."""
        return tally(self.grid[self.place], self.part, self.ahead[self.place], self.behind)

    def settle(self, figure):
        """Settle the figure at this place, and go on to the place ahead of it."""
        rows = self.grid[self.place]
        rows[self.part] = [figure]
        self.behind = ways_behind(rows, self.ahead[self.place], self.behind)
        self.place -= 1

"""Places of numbers that stand below one another, and what comes together at a place.

A grid has for each place, from place 0 on, its rows: for each number the list of the
figures that may stand there. Ways are a dict: how many ways lead to each number (or to
each carry), without those to which none leads.
"""

from blotsum.entries import figures_of


def figures_at(rows, place):
    """The figures at a place of an entry, told by the figures of its spots."""
    if place < len(rows):
        return list(rows[len(rows) - 1 - place])
    return [0]


def most_places(entries):
    """How many places the longest of the entries has."""
    return max([len(entry) for entry in entries])


def grid_of(entries, places):
    """The grid of entries that stand below one another, with so many places."""
    told = [figures_of(entry) for entry in entries]
    return [[figures_at(rows, place) for rows in told] for place in range(places)]


def joined(ways, more):
    """The ways to each number that one of these and one of those come to."""
    both = {}
    for number in ways:
        for added in more:
            come = number + added
            both[come] = both.get(come, 0) + ways[number] * more[added]
    return both


def sums_of(rows):
    """The ways to each number that a figure of each row come to."""
    ways = {0: 1}
    for figures in rows:
        ways = joined(ways, {figure: 1 for figure in figures})
    return ways

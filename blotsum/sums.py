"""Sums: their fillings, how often each figure stands at each spot, and what is left of them."""

from blotsum.chains import Chain, all_tallies, fillings_of, narrowed_entries, number_of_readings, readings_at
from blotsum.entries import is_entry, is_reading
from blotsum.errors import NoFilling
from blotsum.places import grid_of, joined, most_places, sums_of

MOST_PARTS = 8


def is_sum(thing):
    """Whether anything is a sum."""
    if not isinstance(thing, tuple) or len(thing) != 2:
        return False
    parts, total = thing
    if not isinstance(parts, tuple) or not 1 <= len(parts) <= MOST_PARTS:
        return False
    return all([is_entry(entry) for entry in (*parts, total)])


def entries_of(page):
    """The entries of a sum, the total last."""
    parts, total = page
    return [*parts, total]


def carried(ways, totals):
    """The ways to each carry out of a place, of the ways to what comes together there."""
    out = {}
    for come in ways:
        carry, figure = divmod(come, 10)
        if figure in totals:
            out[carry] = out.get(carry, 0) + ways[come]
    return out


def carried_on(ways, totals, added, behind):
    """How many ways there are on from a place, with a number added to what comes together."""
    many = 0
    for come in ways:
        carry, figure = divmod(come + added, 10)
        if figure in totals:
            many += ways[come] * behind.get(carry, 0)
    return many


class SumChain(Chain):
    """The chain of a sum, the total last. A carry is a whole number, at first and at last 0."""

    def __init__(self, page):
        entries = entries_of(page)
        Chain.__init__(self, grid_of(entries, most_places(entries)), 0, [0])

    def through(self, ways, rows):
        """The ways to each carry out of a place, of the ways to each carry into it."""
        return carried(joined(ways, sums_of(rows[:-1])), rows[-1])

    # Up to eight parts are long to add up, so the next two do it once and not for each carry and figure.

    def ways_behind(self, ways, rows, behind):
        """For each carry into a place how many ways there are on from it."""
        sums = sums_of(rows[:-1])
        return {carry: carried_on(sums, rows[-1], carry, behind) for carry in ways}

    def tally(self, ways, rows, at, behind):
        """In how many ways each figure of a number stands at a place, figures rising."""
        parts = rows[:-1]
        totals = rows[-1]
        if at == len(parts):
            come = joined(ways, sums_of(parts))
            return {figure: carried_on(come, [figure], 0, behind) for figure in totals}
        come = joined(ways, sums_of(parts[:at] + parts[at + 1:]))
        return {figure: carried_on(come, totals, figure, behind) for figure in rows[at]}


def is_filling(page, thing):
    """Whether anything is a filling of the sum."""
    entries = entries_of(page)
    if not isinstance(thing, tuple) or len(thing) != len(entries):
        return False
    if not all([is_reading(entry, number) for entry, number in zip(entries, thing)]):
        return False
    return sum(thing[:-1]) == thing[-1]


def how_many(page):
    """How many fillings a sum has."""
    return fillings_of(SumChain(page))


def filling_at(page, number):
    """The filling of a number, counted from 0, in order as tuples."""
    return tuple(readings_at(SumChain(page), number))


def number_of(page, thing):
    """The number of a filling."""
    if not is_filling(page, thing):
        raise NoFilling("this is no filling of the sum")
    return number_of_readings(SumChain(page), thing)


def spot_shares(spot, counts):
    """The shares of one spot; a figure that can't stand there at all is in no filling."""
    return [(figure, counts.get(int(figure), 0)) for figure in spot]


def shares(page):
    """For each entry and each of its spots, in how many fillings each figure stands there."""
    tallies = all_tallies(SumChain(page))
    told = []
    for at, entry in enumerate(entries_of(page)):
        last = len(entry) - 1
        told.append([spot_shares(spot, tallies[last - k][at]) for k, spot in enumerate(entry)])
    return told


def narrowed(page):
    """The sum with just the figures that some filling has."""
    entries = narrowed_entries(SumChain(page), entries_of(page))
    return tuple(entries[:-1]), entries[-1]

"""Sums: their fillings, how often each figure stands at each spot, and what is left of them."""

from blotsum.entries import is_entry, is_number_among, is_reading
from blotsum.errors import NoFilling, NoNumber
from blotsum.places import PartWalk, all_tallies, grid_of, ways_ahead

MOST_PARTS = 8


def is_sum(thing):
    """Whether anything is a sum."""
    if not isinstance(thing, tuple) or len(thing) != 2:
        return False
    parts, total = thing
    if not isinstance(parts, tuple) or not 1 <= len(parts) <= MOST_PARTS:
        return False
    return all([is_entry(entry) for entry in (*parts, total)])


def is_filling(page, thing):
    """Whether anything is a filling of the sum."""
    parts, total = page
    entries = [*parts, total]
    if not isinstance(thing, tuple) or len(thing) != len(entries):
        return False
    if not all([is_reading(entry, number) for entry, number in zip(entries, thing)]):
        return False
    return sum(thing[:-1]) == thing[-1]


def how_many(page):
    """How many fillings a sum has."""
    return ways_ahead(grid_of(page))[-1].get(0, 0)


def chosen(counts, number):
    """The figure whose fillings hold the one of a number, and its number among these."""
    figures = list(counts)
    at = 0
    left = number
    while left >= counts[figures[at]]:
        left -= counts[figures[at]]
        at += 1
    return figures[at], left


def part_at(grid, part, number):
    """A part's reading in the filling of a number, and its number among those with this reading.

    The part is settled in the grid.
    """
    walk = PartWalk(grid, part)
    reading = 0
    left = number
    for step in range(len(grid)):
        figure, left = chosen(walk.counts(), left)
        walk.settle(figure)
        reading = reading * 10 + figure
    return reading, left


def filling_at(page, number):
    """The filling of a number, counted from 0, in order as tuples."""
    among = how_many(page)
    if not is_number_among(number, among):
        raise NoNumber(number, among)
    grid = grid_of(page)
    readings = []
    left = number
    for part in range(len(page[0])):
        reading, left = part_at(grid, part, left)
        readings.append(reading)
    return (*readings, sum(readings))


def less_at_part(grid, part, reading):
    """How many fillings have a lesser reading of a part, which is settled in the grid."""
    walk = PartWalk(grid, part)
    many = 0
    for sign in str(reading).zfill(len(grid)):
        counts = walk.counts()
        many += sum([counts[figure] for figure in counts if figure < int(sign)])
        walk.settle(int(sign))
    return many


def number_of(page, thing):
    """The number of a filling."""
    if not is_filling(page, thing):
        raise NoFilling("this is no filling of the sum")
    grid = grid_of(page)
    number = 0
    # Each part is settled in the grid before the next one is looked at, as tuples are ordered.
    for part, reading in enumerate(thing[:-1]):
        number += less_at_part(grid, part, reading)
    return number


def spot_shares(spot, counts):
    """The shares of one spot; a figure that can't stand there at all is in no filling."""
    return [(figure, counts.get(int(figure), 0)) for figure in spot]


def shares(page):
    """For each entry and each of its spots, in how many fillings each figure stands there."""
    parts, total = page
    tallies = all_tallies(grid_of(page))
    told = []
    for at, entry in enumerate([*parts, total]):
        last = len(entry) - 1
        told.append([spot_shares(spot, tallies[last - k][at]) for k, spot in enumerate(entry)])
    return told


def narrowed_spot(spot_share):
    """The spot with just the figures that stand in some filling."""
    return "".join([figure for figure, many in spot_share if many > 0])


def narrowed(page):
    """The sum with just the figures that some filling has."""
    if how_many(page) == 0:
        raise NoFilling("the sum has no filling")
    entries = [tuple([narrowed_spot(share) for share in told]) for told in shares(page)]
    return tuple(entries[:-1]), entries[-1]

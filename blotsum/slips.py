"""Misread figures: the fewest slips with which the figures of a sum come right.

A best is a tuple (slips, many, first): the fewest slips, in how many ways there are so few,
and the first of these, a tuple with something for each part. Bests are a dict: the best for
each number that comes together, or for each carry.
"""

from blotsum.entries import FIGURES
from blotsum.places import most_places


def slips_at(entry, place):
    """For each figure that a mending may have at a place of an entry how many slips it is."""
    if place >= len(entry):
        return {0: 0}
    spot = entry[len(entry) - 1 - place]
    is_first_of_several = place > 0 and place == len(entry) - 1
    figures = FIGURES[1:] if is_first_of_several else FIGURES
    return {int(figure): 0 if figure in spot else 1 for figure in figures}


def put(bests, number, best):
    """Put a best beside the one that is there for the number."""
    if number not in bests or best[0] < bests[number][0]:
        bests[number] = best
    elif best[0] == bests[number][0]:
        slips, many, first = best
        bests[number] = (slips, many + bests[number][1], min(first, bests[number][2]))


def parts_at(parts, place):
    """The best for each number that the parts come to at a place, by their figures there."""
    bests = {0: (0, 1, ())}
    for part in parts:
        figures = slips_at(part, place)
        longer = {}
        for come in bests:
            slips, many, first = bests[come]
            for figure in figures:
                put(longer, come + figure, (slips + figures[figure], many, (*first, figure)))
        bests = longer
    return bests


def put_ahead(numbers, figures, worth):
    """The numbers with one more figure ahead of each."""
    return tuple([number + figure * worth for number, figure in zip(numbers, figures)])


def through(bests, page, place, worth):
    """The best for each carry out of a place, of those for each carry into it."""
    parts, total = page
    totals = slips_at(total, place)
    here = parts_at(parts, place)
    out = {}
    for carry in bests:
        slips, many, numbers = bests[carry]
        for come in here:
            more, times, figures = here[come]
            carry_out, figure = divmod(carry + come, 10)
            if figure in totals:
                # Tuples stay in order when the same is added to each, so of the first
                # ones with these carries the first one of all is made.
                first = put_ahead(numbers, figures, worth)
                put(out, carry_out, (slips + more + totals[figure], many * times, first))
    return out


def mended(page):
    """The fewest slips of any mending, how many mendings have so few, and the first of these."""
    parts, total = page
    bests = {0: (0, 1, (0,) * len(parts))}
    worth = 1
    for place in range(most_places([*parts, total])):
        bests = through(bests, page, place, worth)
        worth *= 10
    if 0 not in bests:
        return None
    slips, many, first = bests[0]
    return slips, many, (*first, sum(first))

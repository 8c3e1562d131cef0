"""Pages: sums of which each one's total is carried forward to the next.

The numbers of pages are those of the first page and, of each further one, all but the part
that is brought forward, as this is one number with the total of the page ahead.
"""

from blotsum.chains import Chain, fillings_of, narrowed_entries, number_of_readings, readings_at
from blotsum.errors import NoFilling
from blotsum.places import grid_of, most_places, sums_of
from blotsum.sums import entries_of, is_filling, is_sum

MOST_PAGES = 2
MOST_PARTS_OF_PAGES = 3
MOST_SPOTS_OF_PAGES = 6


def is_page(thing):
    """Whether anything is a sum that is small enough for pages."""
    if not is_sum(thing) or len(thing[0]) > MOST_PARTS_OF_PAGES:
        return False
    return most_places(entries_of(thing)) <= MOST_SPOTS_OF_PAGES


def are_pages(thing):
    """Whether anything is pages."""
    if not isinstance(thing, tuple) or not 1 <= len(thing) <= MOST_PAGES:
        return False
    return all([is_page(page) for page in thing])


def without_brought(rows):
    """What is told of the numbers of pages, for rows with what is told on each page."""
    told = list(rows[0])
    for row in rows[1:]:
        told.extend(row[1:])
    return told


def own_sizes(pages):
    """How many of the numbers of pages stand on each page, without the one that is brought forward."""
    sizes = [len(entries_of(page)) - 1 for page in pages]
    sizes[0] += 1
    return sizes


def with_brought(pages, told):
    """Rows with what is told on each page, for what is told of the numbers of pages."""
    rows = []
    at = 0
    brought = ()
    for size in own_sizes(pages):
        rows.append((*brought, *told[at:at + size]))
        brought = (rows[-1][-1],)
        at += size
    return rows


def tied_rows(rows_of_pages):
    """The rows of the numbers of pages at a place, for the rows of each page there."""
    told = list(rows_of_pages[0])
    for brought, *further in rows_of_pages[1:]:
        told[-1] = [figure for figure in told[-1] if figure in brought]
        told.extend(further)
    return told


def grid_of_pages(pages):
    """The grid of the numbers of pages."""
    places = max([most_places(entries_of(page)) for page in pages])
    grids = [grid_of(entries_of(page), places) for page in pages]
    return [tied_rows([grid[place] for grid in grids]) for place in range(places)]


def through_page(ways, rows, page):
    """The ways to each (carries, figure of the total) behind a page, of those ahead of it.

    The rows are those of the page at a place, without the part that is brought forward.
    """
    sums = sums_of(rows[:-1])
    out = {}
    for state in ways:
        carries, brought = state
        for added in sums:
            carry, figure = divmod(carries[page] + brought + added, 10)
            if figure in rows[-1]:
                behind = (*carries[:page], carry, *carries[page + 1:]), figure
                out[behind] = out.get(behind, 0) + ways[state] * sums[added]
    return out


class PagesChain(Chain):
    """The chain of the numbers of pages. A carry is a tuple with the carry of each page."""

    def __init__(self, pages):
        nothing = (0,) * len(pages)
        Chain.__init__(self, grid_of_pages(pages), nothing, [nothing])
        self.sizes = own_sizes(pages)

    def through(self, ways, rows):
        """The ways to each carry out of a place, of the ways to each carry into it."""
        # To the first page nothing is brought forward, which is as good as a 0 at each place.
        states = {(carries, 0): ways[carries] for carries in ways}
        at = 0
        for page, size in enumerate(self.sizes):
            states = through_page(states, rows[at:at + size], page)
            at += size
        out = {}
        for carries, figure in states:
            out[carries] = out.get(carries, 0) + states[carries, figure]
        return out


def is_filling_of_pages(pages, thing):
    """Whether anything is a filling of the pages."""
    if not isinstance(thing, tuple) or len(thing) != len(pages):
        return False
    if not all([is_filling(page, filling) for page, filling in zip(pages, thing)]):
        return False
    return all([ahead[-1] == behind[0] for ahead, behind in zip(thing, thing[1:])])


def pages_many(pages):
    """How many fillings pages have."""
    return fillings_of(PagesChain(pages))


def pages_at(pages, number):
    """The filling of a number, counted from 0, in order as tuples."""
    return tuple(with_brought(pages, readings_at(PagesChain(pages), number)))


def pages_number(pages, thing):
    """The number of a filling."""
    if not is_filling_of_pages(pages, thing):
        raise NoFilling("this is no filling of the pages")
    return number_of_readings(PagesChain(pages), without_brought(thing))


def pages_narrowed(pages):
    """The pages with just the figures that some filling has."""
    entries = without_brought([entries_of(page) for page in pages])
    told = with_brought(pages, narrowed_entries(PagesChain(pages), entries))
    return tuple([(row[:-1], row[-1]) for row in told])

"""Products: an entry times a spot."""

from blotsum.chains import Chain, fillings_of, narrowed_entries, readings_at
from blotsum.entries import is_entry, is_spot
from blotsum.places import grid_of, most_places


def is_product(thing):
    """Whether anything is a product."""
    if not isinstance(thing, tuple) or len(thing) != 3:
        return False
    entry, spot, total = thing
    return is_entry(entry) and is_spot(spot) and is_entry(total)


def entries_of_product(product):
    """The numbers of a product as entries, the spot as one with no other beside it."""
    entry, spot, total = product
    return [entry, (spot,), total]


class ProductChain(Chain):
    """The chain of a product. A carry is a tuple (times, carry).

    At place 0 a figure of the spot is taken; from then on times is this figure, ahead of it None.
    """

    def __init__(self, product):
        entries = entries_of_product(product)
        last = [(int(figure), 0) for figure in product[1]]
        Chain.__init__(self, grid_of(entries, most_places(entries)), (None, 0), last)

    def through(self, ways, rows):
        """The ways to each carry out of a place, of the ways to each carry into it."""
        figures, factors, totals = rows
        out = {}
        for state in ways:
            times, carry = state
            for factor in factors if times is None else [times]:
                for figure in figures:
                    carry_out, come = divmod(figure * factor + carry, 10)
                    if come in totals:
                        behind = (factor, carry_out)
                        out[behind] = out.get(behind, 0) + ways[state]
        return out


def times_many(product):
    """How many fillings a product has."""
    return fillings_of(ProductChain(product))


def times_at(product, number):
    """The filling of a number, counted from 0, in order as tuples."""
    return tuple(readings_at(ProductChain(product), number))


def times_narrowed(product):
    """The product with just the figures that some filling has."""
    entry, spots, total = narrowed_entries(ProductChain(product), entries_of_product(product))
    return entry, spots[0], total

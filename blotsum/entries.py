"""Entries: numbers of which not every figure can be read."""

from blotsum.errors import NoDivisor, NoNumber

FIGURES = "0123456789"
MOST_SPOTS = 12
LEAST_DIVISOR = 2
GREATEST_DIVISOR = 99


def is_whole(thing):
    """Whether anything is a whole number, truths being none."""
    return isinstance(thing, int) and not isinstance(thing, bool)


def is_number_among(thing, many):
    """Whether anything is the number of one of so many things, counted from 0."""
    return is_whole(thing) and 0 <= thing < many


def is_spot(thing):
    """Whether anything is a spot."""
    if not isinstance(thing, str) or thing == "":
        return False
    return thing == "".join([figure for figure in FIGURES if figure in thing])


def is_entry(thing):
    """Whether anything is an entry."""
    if not isinstance(thing, tuple) or not 1 <= len(thing) <= MOST_SPOTS:
        return False
    return all([is_spot(spot) for spot in thing])


def figures_of(entry):
    """For each spot the list of the figures, as numbers, that a reading can have there."""
    rows = [[int(figure) for figure in spot] for spot in entry]
    if len(rows) > 1:
        rows[0] = [figure for figure in rows[0] if figure != 0]
    return rows


def how_many_readings(entry):
    """How many readings an entry has."""
    many = 1
    for figures in figures_of(entry):
        many *= len(figures)
    return many


def ends_of(entry):
    """The least and the greatest reading, None without any."""
    many = how_many_readings(entry)
    if many == 0:
        return None
    return reading_at(entry, 0), reading_at(entry, many - 1)


def is_reading(entry, number):
    """Whether a whole number is a reading of the entry."""
    if not is_whole(number) or number < 0:
        return False
    rest = number
    for figures in reversed(figures_of(entry)):
        rest, figure = divmod(rest, 10)
        if figure not in figures:
            return False
    return rest == 0


def readings_below(entry, number):
    """How many readings are less than a whole number."""
    if number < 0:
        return 0
    below = 0
    many = 1
    rest = number
    # From the last spot on: below and many speak of the spots that are done,
    # and of as many last figures of the number.
    for figures in reversed(figures_of(entry)):
        rest, figure = divmod(rest, 10)
        less = len([one for one in figures if one < figure])
        below = less * many + (below if figure in figures else 0)
        many *= len(figures)
    return many if rest > 0 else below


def reading_at(entry, number):
    """The reading of a number, counted from 0, readings rising."""
    among = how_many_readings(entry)
    if not is_number_among(number, among):
        raise NoNumber(number, among)
    reading = 0
    worth = 1
    rest = number
    # All readings have as many figures, so they rise as their figures do in order.
    for figures in reversed(figures_of(entry)):
        rest, at = divmod(rest, len(figures))
        reading += figures[at] * worth
        worth *= 10
    return reading


def remainders(entry, divisor=9):
    """How many readings leave each remainder, by the remainders from 0 on."""
    if not is_whole(divisor) or not LEAST_DIVISOR <= divisor <= GREATEST_DIVISOR:
        raise NoDivisor(divisor)
    counts = [1] + [0] * (divisor - 1)
    for figures in figures_of(entry):
        longer = [0] * divisor
        for remainder, many in enumerate(counts):
            for figure in figures:
                longer[(remainder * 10 + figure) % divisor] += many
        counts = longer
    return counts

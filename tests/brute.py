"""What the document says, gone through one by one: slow, and only for small things."""

import functools
import itertools
import random

BLOT = "0123456789"


def readings(entry):
    found = []
    for figures in itertools.product(*entry):
        if len(entry) == 1 or figures[0] != "0":
            found.append(int("".join(figures)))
    return sorted(found)


@functools.lru_cache(maxsize=None)
def fillings(page):
    parts, total = page
    totals = set(readings(total))
    found = []
    for numbers in itertools.product(*[readings(part) for part in parts]):
        if sum(numbers) in totals:
            found.append((*numbers, sum(numbers)))
    return tuple(sorted(found))


def shares(page):
    parts, total = page
    found = fillings(page)
    told = []
    for at, entry in enumerate((*parts, total)):
        texts = [str(filling[at]) for filling in found]
        told.append([[(figure, sum(text[k] == figure for text in texts)) for figure in spot]
                     for k, spot in enumerate(entry)])
    return told


def narrowed(page):
    entries = [tuple("".join(figure for figure, many in spot if many) for spot in entry)
               for entry in shares(page)]
    return tuple(entries[:-1]), entries[-1]


def some_spot(chance, most=10):
    many = chance.randint(1, most)
    return "".join(sorted(chance.sample(BLOT, many)))


def some_entry(chance, most_spots, most_figures=10):
    spots = chance.randint(1, most_spots)
    return tuple(some_spot(chance, most_figures) for _ in range(spots))


def some_page(chance, most_parts, most_spots, most_figures):
    parts = tuple(some_entry(chance, most_spots, most_figures)
                  for _ in range(chance.randint(1, most_parts)))
    return parts, some_entry(chance, most_spots)


def some_pages(seed, many, most_parts=3, most_spots=3, most_figures=3):
    chance = random.Random(seed)
    return [some_page(chance, most_parts, most_spots, most_figures) for _ in range(many)]


def great_page(seed, parts=8, most_spots=12):
    """A great sum that has a filling: each spot has the figure of one, and others beside it."""
    chance = random.Random(seed)
    numbers = []
    for _ in range(parts):
        spots = chance.randint(most_spots // 2, most_spots - 1)
        numbers.append(chance.randint(10 ** (spots - 1), 10 ** spots - 1))
    entries = []
    for number in (*numbers, sum(numbers)):
        entries.append(tuple("".join(sorted(set(figure + some_spot(chance))))
                             for figure in str(number)))
    return (tuple(entries[:-1]), entries[-1]), (*numbers, sum(numbers))


# Things of every kind that may be handed in where an answer is told of anything.
THINGS = [
    None, True, False, 0, 1, -1, 7, 10 ** 39, -(10 ** 40 - 1), "", "0", "1", "10", "01", "00", "11",
    "a", " ", "-1", "+1", "1 ", "0123456789", "01234567890", "9876543210", "x" * 2000, "1" * 2000,
    "0\n", "1\n2", "~", [], [[]], [0], [1, 2, 3], ["0"], ["1", "2"], (), ((),), (0,), (None,), (True,),
    ("",), ("0",), ("10",), ("a",), ("1", ""), ("1", 2), ("1", None), ("1", ["2"]), ("1", ("2",)),
    ("1",) * 12, ("1",) * 13, ("1",) * 200, ((("1",),), ("1",)), ((("1",),), ["1"]), ([("1",)], ("1",)),
    [(("1",),), ("1",)], ((["1"],), ("1",)), ((), ("1",)), ((("1",),), ()), ((("1",),) * 8, ("8",)),
    ((("1",),) * 9, ("9",)), ((("1",),), ("1",), ("1",)), ((("1",),),), (("1",), ("1",)), ("1", "1"),
    ((("1",) * 13,), ("1",)), ((("1",),), ("1",) * 13), ((("1",), None), ("1",)), ((("1",), "1"), ("1",)),
    (None, None), ("", ""), ((None,), None), (0, 0), (1, 1), (1, 1, 2), [1, 1, 2],
    (True, 1, 2), (1, True, 2), (1, 1, True), ("1", "1", "2"), ((1,), (1,), (2,)), (1, 1, 2, 0), (1, 1),
    ((((((1,),),),),),), [[[[[[1]]]]]], [([([([],)],)],)],
]

"""What the document says, gone through one by one: slow, and only for small things."""

import functools
import itertools
import random

BLOT = "0123456789"


def readings(entry):
    found = []
    for figures in itertools.product(*entry):
        if len(entry) == 1 or figures[0] != "0":
            found.append(int("".join(figures)))
    return sorted(found)


@functools.lru_cache(maxsize=None)
def fillings(page):
    parts, total = page
    totals = set(readings(total))
    found = []
    for numbers in itertools.product(*[readings(part) for part in parts]):
        if sum(numbers) in totals:
            found.append((*numbers, sum(numbers)))
    return tuple(sorted(found))


def shares(page):
    parts, total = page
    found = fillings(page)
    told = []
    for at, entry in enumerate((*parts, total)):
        texts = [str(filling[at]) for filling in found]
        told.append([[(figure, sum(text[k] == figure for text in texts)) for figure in spot]
                     for k, spot in enumerate(entry)])
    return told


def narrowed(page):
    entries = [tuple("".join(figure for figure, many in spot if many) for spot in entry)
               for entry in shares(page)]
    return tuple(entries[:-1]), entries[-1]


def figures_at(entry, place):
    if place >= len(entry):
        return [0]
    barred = "0" if 0 < place == len(entry) - 1 else ""
    return [int(figure) for figure in entry[-1 - place] if figure not in barred]


def ends_at(entry, places):
    """All numbers that the figures at so many places, from place 0 on, can make."""
    numbers = [0]
    for place in range(places):
        numbers = [number + figure * 10 ** place for number in numbers for figure in figures_at(entry, place)]
    return numbers


def places_of(page):
    parts, total = page
    return max(len(entry) for entry in (*parts, total))


def carries(page):
    """By all figures at all places ahead, put together."""
    parts, total = page
    told = []
    for place in range(places_of(page) + 1):
        totals = set(ends_at(total, place))
        sums = {sum(ends) for ends in itertools.product(*[ends_at(part, place) for part in parts])}
        told.append(sorted({end // 10 ** place for end in sums if end % 10 ** place in totals}))
    return told


@functools.lru_cache(maxsize=None)
def sums_at(page, place):
    return {sum(figures) for figures in itertools.product(*[figures_at(part, place) for part in page[0]])}


def carries_out(page, place, number):
    totals = figures_at(page[1], place)
    return {(number + come) // 10 for come in sums_at(page, place) if (number + come) % 10 in totals}


def shows_none(page, paper):
    if len(paper) != places_of(page) + 1 or 0 not in paper[0] or 0 in paper[-1]:
        return False
    return all(carries_out(page, place, number) <= set(paper[place + 1])
               for place in range(places_of(page)) for number in paper[place])


def closed(page, numbers):
    """A list of lists that begins with these numbers, each further one with all that come of the one ahead."""
    paper = [list(numbers)]
    for place in range(places_of(page)):
        paper.append(sorted({carry for number in paper[-1] for carry in carries_out(page, place, number)}))
    return paper


def numbers_as_long(entry):
    return range(10 ** (len(entry) - 1) if len(entry) > 1 else 0, 10 ** len(entry))


def slips_of(entry):
    return {number: sum(figure not in spot for spot, figure in zip(entry, str(number)))
            for number in numbers_as_long(entry)}


@functools.lru_cache(maxsize=None)
def mended(page):
    parts, total = page
    slips = [slips_of(part) for part in parts]
    totals = slips_of(total)
    fewest, many, first = None, 0, None
    for numbers in itertools.product(*slips):
        if sum(numbers) in totals:
            here = sum(one[number] for one, number in zip(slips, numbers)) + totals[sum(numbers)]
            if fewest is None or here < fewest:
                fewest, many, first = here, 0, (*numbers, sum(numbers))
            many += here == fewest
    return None if fewest is None else (fewest, many, first)


@functools.lru_cache(maxsize=None)
def pages_fillings(pages):
    if len(pages) == 1:
        return tuple((filling,) for filling in fillings(pages[0]))
    behind = {}
    for filling in fillings(pages[1]):
        behind.setdefault(filling[0], []).append(filling)
    return tuple(sorted((ahead, filling) for ahead in fillings(pages[0]) for filling in behind.get(ahead[-1], [])))


def pages_narrowed(pages):
    told = []
    for at, (parts, total) in enumerate(pages):
        rows = [filling[at] for filling in pages_fillings(pages)]
        entries = [tuple("".join(sorted({str(row[k])[spot] for row in rows})) for spot in range(len(entry)))
                   for k, entry in enumerate((*parts, total))]
        told.append((tuple(entries[:-1]), entries[-1]))
    return tuple(told)


@functools.lru_cache(maxsize=None)
def times_fillings(product):
    entry, spot, total = product
    totals = set(readings(total))
    return tuple(sorted((number, int(figure), number * int(figure)) for number in readings(entry) for figure in spot
                        if number * int(figure) in totals))


def times_narrowed(product):
    entry, spot, total = product
    columns = list(zip(*times_fillings(product)))
    narrow = [tuple("".join(sorted({str(number)[at] for number in column})) for at in range(len(one)))
              for one, column in zip((entry, (spot,), total), columns)]
    return narrow[0], narrow[1][0], narrow[2]


def riddle_letters(riddle):
    words, total = riddle
    return sorted(set("".join((*words, total))))


def solves(riddle, figures):
    """Whether figures, a dict by letters, solve a riddle: by texts of figures, letter for letter."""
    words, total = riddle
    texts = [word.translate({ord(letter): str(figures[letter]) for letter in figures}) for word in (*words, total)]
    if len(set(figures.values())) < len(figures) or any(len(text) > 1 and text[0] == "0" for text in texts):
        return False
    return sum(int(text) for text in texts[:-1]) == int(texts[-1])


@functools.lru_cache(maxsize=None)
def solutions(riddle):
    """All solutions, by all unlike figures for the letters; as tuples of tuples."""
    letters = riddle_letters(riddle)
    found = [tuple(zip(letters, figures)) for figures in itertools.permutations(range(10), len(letters))]
    return tuple(sorted(one for one in found if solves(riddle, dict(one))))


def spot_text(spot):
    if len(spot) == 10:
        return "?"
    return "[" + spot + "]" if len(spot) > 1 else spot


def entry_text(entry):
    return "".join(map(spot_text, entry))


def sum_text(page):
    text = ""
    for part in page[0]:
        text += (" + " if text else "") + entry_text(part)
    return text + " = " + entry_text(page[1])


def settled(page):
    """By all fillings: the spots that are not clear and have one figure in each."""
    told = []
    for at, entry in enumerate((*page[0], page[1])):
        for spot, figures in enumerate(entry):
            here = {str(filling[at])[spot] for filling in fillings(page)}
            if len(here) == 1 and len(figures) > 1:
                told.append((at, spot, *here))
    return told


def some_word(chance, letters, most):
    return "".join(chance.choice(letters) for _ in range(chance.randint(1, most)))


def some_riddle(chance, letters, most_words=4, most_letters=8):
    words = tuple(some_word(chance, letters, most_letters) for _ in range(chance.randint(1, most_words)))
    return words, some_word(chance, letters, most_letters)


def riddle_around(chance, letters, most_words=3, most_letters=4):
    """A riddle that has a solution: numbers of figures that have letters. None where a figure has no letter."""
    figures = dict(zip(chance.sample(BLOT, len(letters)), letters))
    numbers = []
    for _ in range(chance.randint(2, most_words)):
        text = "".join(chance.choice(list(figures)) for _ in range(chance.randint(1, most_letters)))
        numbers.append(int(text))
    texts = [str(number) for number in (*numbers, sum(numbers))]
    if any(sign not in figures for text in texts for sign in text):
        return None
    words = ["".join(figures[sign] for sign in text) for text in texts]
    return tuple(words[:-1]), words[-1]


def some_spot(chance, most=10):
    many = chance.randint(1, most)
    return "".join(sorted(chance.sample(BLOT, many)))


def some_entry(chance, most_spots, most_figures=10):
    spots = chance.randint(1, most_spots)
    return tuple(some_spot(chance, most_figures) for _ in range(spots))


def some_page(chance, most_parts, most_spots, most_figures):
    parts = tuple(some_entry(chance, most_spots, most_figures)
                  for _ in range(chance.randint(1, most_parts)))
    return parts, some_entry(chance, most_spots)


def some_pages(seed, many, most_parts=3, most_spots=3, most_figures=3):
    chance = random.Random(seed)
    return [some_page(chance, most_parts, most_spots, most_figures) for _ in range(many)]


def great_page(seed, parts=8, most_spots=12):
    """A great sum that has a filling: each spot has the figure of one, and others beside it."""
    chance = random.Random(seed)
    numbers = []
    for _ in range(parts):
        spots = chance.randint(most_spots // 2, most_spots - 1)
        numbers.append(chance.randint(10 ** (spots - 1), 10 ** spots - 1))
    entries = []
    for number in (*numbers, sum(numbers)):
        entries.append(tuple("".join(sorted(set(figure + some_spot(chance))))
                             for figure in str(number)))
    return (tuple(entries[:-1]), entries[-1]), (*numbers, sum(numbers))


def pages_around(seed, most_spots=3, most_figures=4, most_parts=3):
    """Two pages that have a filling: each spot has the figure of one, and others beside it."""
    chance = random.Random(seed)
    brought = ()
    told = []
    for _ in range(2):
        most = 10 ** chance.randint(1, most_spots) // 7
        parts = chance.randint(1, most_parts)
        numbers = [*brought, *[chance.randint(0, most) for _ in range(parts - len(brought))]]
        entries = []
        for number in (*numbers, sum(numbers)):
            entries.append(tuple("".join(sorted(set(figure + some_spot(chance, most_figures))))
                                 for figure in str(number)))
        told.append((tuple(entries[:-1]), entries[-1]))
        brought = (sum(numbers),)
    return tuple(told)


def product_around(seed, spots):
    """A product that has a filling: each spot has the figure of one, and others beside it."""
    chance = random.Random(seed)
    number, figure = chance.randint(10 ** (spots - 1), 10 ** spots - 1), chance.randint(0, 9)
    texts = [str(number), str(figure), str(number * figure)]
    entries = [tuple("".join(sorted(set(sign + some_spot(chance, 5)))) for sign in text) for text in texts]
    return (entries[0], entries[1][0], entries[2]), (number, figure, number * figure)


# Things of every kind that may be handed in where an answer is told of anything.
THINGS = [
    None, True, False, 0, 1, -1, 7, 10 ** 39, -(10 ** 40 - 1), "", "0", "1", "10", "01", "00", "11",
    "a", " ", "-1", "+1", "1 ", "0123456789", "01234567890", "9876543210", "x" * 2000, "1" * 2000,
    "0\n", "1\n2", "~", [], [[]], [0], [1, 2, 3], ["0"], ["1", "2"], (), ((),), (0,), (None,), (True,),
    ("",), ("0",), ("10",), ("a",), ("1", ""), ("1", 2), ("1", None), ("1", ["2"]), ("1", ("2",)),
    ("1",) * 12, ("1",) * 13, ("1",) * 200, ((("1",),), ("1",)), ((("1",),), ["1"]), ([("1",)], ("1",)),
    [(("1",),), ("1",)], ((["1"],), ("1",)), ((), ("1",)), ((("1",),), ()), ((("1",),) * 8, ("8",)),
    ((("1",),) * 9, ("9",)), ((("1",),), ("1",), ("1",)), ((("1",),),), (("1",), ("1",)), ("1", "1"),
    ((("1",) * 13,), ("1",)), ((("1",),), ("1",) * 13), ((("1",), None), ("1",)), ((("1",), "1"), ("1",)),
    (None, None), ("", ""), ((None,), None), (0, 0), (1, 1), (1, 1, 2), [1, 1, 2],
    (True, 1, 2), (1, True, 2), (1, 1, True), ("1", "1", "2"), ((1,), (1,), (2,)), (1, 1, 2, 0), (1, 1),
    ((((((1,),),),),),), [[[[[[1]]]]]], [([([([],)],)],)],
]

"""Riddles: words whose letters stand for figures, unlike ones for unlike ones."""

from blotsum.entries import FIGURES, is_number_among

LETTERS = "abcdefghijklmnopqrstuvwxyz"
MOST_LETTERS_OF_WORD = 8
MOST_WORDS = 4
MOST_UNLIKE_LETTERS = 6


def is_word(thing):
    """Whether anything is a word."""
    if not isinstance(thing, str) or not 1 <= len(thing) <= MOST_LETTERS_OF_WORD:
        return False
    return all([sign in LETTERS for sign in thing])


def words_of(riddle):
    """The words of a riddle, the total last."""
    words, total = riddle
    return [*words, total]


def letters_of(riddle):
    """The unlike letters of a riddle, rising."""
    return sorted({letter for word in words_of(riddle) for letter in word})


def is_riddle(thing):
    """Whether anything is a riddle."""
    if not isinstance(thing, tuple) or len(thing) != 2:
        return False
    words, total = thing
    if not isinstance(words, tuple) or not 1 <= len(words) <= MOST_WORDS:
        return False
    if not all([is_word(word) for word in (*words, total)]):
        return False
    return len(letters_of(thing)) <= MOST_UNLIKE_LETTERS


def add_worths(worths, word, sign):
    """Add to the worth of each letter what it is worth in a word, times 1 or -1."""
    worth = sign
    for letter in reversed(word):
        worths[letter] += worth
        worth *= 10


def worths_of(riddle):
    """For each letter its worth in the words, less its worth in the total.

    The words come to the total where the figures times the worths come to 0.
    """
    words, total = riddle
    worths = {letter: 0 for letter in letters_of(riddle)}
    for word in words:
        add_worths(worths, word, 1)
    add_worths(worths, total, -1)
    return worths


def figures_for(riddle, letter):
    """The figures that a letter may stand for, rising."""
    is_first_of_several = any([len(word) > 1 and word[0] == letter for word in words_of(riddle)])
    figures = FIGURES[1:] if is_first_of_several else FIGURES
    return [int(figure) for figure in figures]


def is_row_for(thing, letter):
    """Whether anything is a tuple of this letter and a figure."""
    if not isinstance(thing, tuple) or len(thing) != 2:
        return False
    return thing[0] == letter and is_number_among(thing[1], len(FIGURES))


def is_solution(riddle, thing):
    """Whether anything is a solution of the riddle."""
    letters = letters_of(riddle)
    if not isinstance(thing, list) or len(thing) != len(letters):
        return False
    if not all([is_row_for(row, letter) for row, letter in zip(thing, letters)]):
        return False
    if len({figure for letter, figure in thing}) < len(thing):
        return False
    if not all([figure in figures_for(riddle, letter) for letter, figure in thing]):
        return False
    worths = worths_of(riddle)
    return sum([worths[letter] * figure for letter, figure in thing]) == 0


def with_one_more(rows, figures, worth, behind):
    """Rows (figures, come) with a figure of the next letter, as long as they can still come to 0.

    Behind are the worths of the letters that have no figure yet.
    """
    least = -9 * sum([one for one in behind if one > 0])
    greatest = -9 * sum([one for one in behind if one < 0])
    longer = []
    for row, come in rows:
        for figure in figures:
            if figure not in row and least <= come + figure * worth <= greatest:
                longer.append(((*row, figure), come + figure * worth))
    return longer


def solution_rows(riddle):
    """The figures of all solutions, as tuples, in order."""
    worths = worths_of(riddle)
    letters = list(worths)
    rows = [((), 0)]
    for at, letter in enumerate(letters):
        behind = [worths[other] for other in letters[at + 1:]]
        rows = with_one_more(rows, figures_for(riddle, letter), worths[letter], behind)
    return [row for row, come in rows]


def solutions_many(riddle):
    """How many solutions a riddle has."""
    return len(solution_rows(riddle))


def solved(riddle):
    """How a riddle stands: without a solution, with one, or with more, the first two then."""
    letters = letters_of(riddle)
    first = [list(zip(letters, row)) for row in solution_rows(riddle)[:2]]
    if len(first) == 0:
        return ("none",)
    if len(first) == 1:
        return "one", first[0]
    return "more", first[0], first[1]


def sum_of_riddle(riddle):
    """The sum of a riddle: a blot for each letter of each word."""
    words, total = riddle
    return tuple([(FIGURES,) * len(word) for word in words]), (FIGURES,) * len(total)

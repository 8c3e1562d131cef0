"""The desk: it is told rows, hands them on to its clerk or to a function, and answers each with a text.

For each row there are two functions: one reads the words behind the first, the other answers.
"""

from blotsum.carries import carries
from blotsum.clerks import Clerk
from blotsum.entries import FIGURES
from blotsum.errors import NoRow, NoText
from blotsum.riddles import solved
from blotsum.slips import mended
from blotsum.sums import filling_at, narrowed
from blotsum.texts import read_entry, read_riddle, read_sum, sum_text

FIRST_SUM = "? + ? = ??"
MOST_FIGURES_OF_NUMBER = 9
DONE = "ok"
NONE = "none"


def is_number_text(text):
    """Whether a number is written so: one to nine figures, the first of several no 0."""
    if not 1 <= len(text) <= MOST_FIGURES_OF_NUMBER:
        return False
    if not all([sign in FIGURES for sign in text]):
        return False
    return len(text) == 1 or text[0] != "0"


def number_in(word):
    """The number that a word is."""
    if not is_number_text(word):
        raise NoRow("a number is one to nine figures, the first of several no 0")
    return int(word)


def read_nothing(words):
    """Read that there are no words."""
    if words != []:
        raise NoRow("there are too many words")


def read_number(words):
    """Read one number."""
    if len(words) != 1:
        raise NoRow("there must be one number")
    return number_in(words[0])


def read_look(words):
    """Read two numbers, and figures, which may be any word, as the clerk refuses wrong ones."""
    if len(words) != 3:
        raise NoRow("there must be two numbers and figures")
    return number_in(words[0]), number_in(words[1]), words[2]


def read_part(words):
    """Read an entry."""
    return read_entry(" ".join(words))


def read_page(words):
    """Read a sum."""
    return read_sum(" ".join(words))


def read_letters(words):
    """Read a riddle."""
    return read_riddle(" ".join(words))


def with_blanks(things):
    """The texts of things, blanks between."""
    return " ".join([str(thing) for thing in things])


def put_page(desk, told):
    """Have a new clerk."""
    desk.clerk = Clerk(told)
    return DONE


def look_closer(desk, told):
    """Have the clerk look closer."""
    entry, spot, figures = told
    desk.clerk.look(entry, spot, figures)
    return DONE


def add_part(desk, told):
    """Have the clerk add a part."""
    desk.clerk.add(told)
    return DONE


def strike_part(desk, told):
    """Have the clerk strike a part."""
    desk.clerk.strike(told)
    return DONE


def take_back(desk, told):
    """Have the clerk take back."""
    desk.clerk.back()
    return DONE


def do_again(desk, told):
    """Have the clerk do again."""
    desk.clerk.again()
    return DONE


def tell_sum(desk, told):
    """The sum's text."""
    return str(desk.clerk)


def tell_many(desk, told):
    """How many fillings there are."""
    return str(desk.clerk.many())


def tell_at(desk, told):
    """The numbers of a filling."""
    return with_blanks(filling_at(desk.clerk.page(), told))


def tell_settled(desk, told):
    """What is settled."""
    settled = [f"{entry}:{spot}:{figure}" for entry, spot, figure in desk.clerk.settled()]
    return NONE if settled == [] else with_blanks(settled)


def tell_narrowed(desk, told):
    """The narrowed sum's text."""
    return sum_text(narrowed(desk.clerk.page()))


def tell_mended(desk, told):
    """The fewest slips, how many mendings have so few, and the first one."""
    best = mended(desk.clerk.page())
    if best is None:
        return NONE
    slips, many, first = best
    return with_blanks([slips, many, *first])


def tell_carries(desk, told):
    """The carries, those of one place with commas between."""
    return with_blanks([",".join([str(carry) for carry in come]) for come in carries(desk.clerk.page())])


def tell_solved(desk, told):
    """How a riddle stands, with the first solution."""
    stand = solved(told)
    if len(stand) == 1:
        return stand[0]
    return with_blanks([stand[0], *[f"{letter}={figure}" for letter, figure in stand[1]]])


ROWS = {
    "page": (read_page, put_page),
    "look": (read_look, look_closer),
    "add": (read_part, add_part),
    "strike": (read_number, strike_part),
    "back": (read_nothing, take_back),
    "again": (read_nothing, do_again),
    "sum": (read_nothing, tell_sum),
    "many": (read_nothing, tell_many),
    "at": (read_number, tell_at),
    "settled": (read_nothing, tell_settled),
    "narrow": (read_nothing, tell_narrowed),
    "mend": (read_nothing, tell_mended),
    "carries": (read_nothing, tell_carries),
    "riddle": (read_letters, tell_solved),
}


class Desk:
    """A desk with a clerk."""

    def __init__(self):
        self.clerk = Clerk(read_sum(FIRST_SUM))

    def say(self, row):
        """The answer to a row."""
        if not isinstance(row, str):
            raise NoRow("a row is a text")
        word, *words = row.split(" ")
        if word not in ROWS:
            raise NoRow("no row begins so")
        read, answer = ROWS[word]
        try:
            told = read(words)
        except NoText:
            raise NoRow("this is not written as it must be in this row") from None
        return answer(self, told)

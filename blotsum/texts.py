"""Texts: how entries, sums, pages and riddles are written, and read back."""

from blotsum.entries import FIGURES, is_entry
from blotsum.errors import NoText
from blotsum.pages import are_pages
from blotsum.riddles import is_riddle
from blotsum.sums import is_sum

BLOT = "?"
PLUS = " + "
EQUALS = " = "


def spot_text(spot):
    """The text of a spot."""
    if spot == FIGURES:
        return BLOT
    return spot if len(spot) == 1 else f"[{spot}]"


def entry_text(entry):
    """The text of an entry."""
    return "".join([spot_text(spot) for spot in entry])


def text_below(parts, total):
    """The text of a sum or a riddle, of the texts of its parts and its total."""
    return PLUS.join(parts) + EQUALS + total


def sum_text(page):
    """The text of a sum."""
    parts, total = page
    return text_below([entry_text(part) for part in parts], entry_text(total))


def pages_text(pages):
    """The text of pages."""
    return "\n".join([sum_text(page) for page in pages])


def riddle_text(riddle):
    """The text of a riddle."""
    words, total = riddle
    return text_below(words, total)


def as_text(thing):
    """The text that was handed in, refused where it is none."""
    if not isinstance(thing, str):
        raise NoText("this is no text at all")
    return thing


def spots_in(text):
    """What may be the spots of the entry that is written so."""
    spots = []
    rest = text
    while rest != "":
        sign = rest[0]
        rest = rest[1:]
        if sign == "[":
            spot, bracket, rest = rest.partition("]")
            spots.append(spot)
        else:
            spots.append(FIGURES if sign == BLOT else sign)
    return spots


def parts_and_total(text):
    """The texts of what may be the parts and the total, of a text of a sum or a riddle."""
    ahead, sign, total = as_text(text).partition(EQUALS)
    return ahead.split(PLUS), total


def read_entry(text):
    """The entry that is written so."""
    entry = tuple(spots_in(as_text(text)))
    # An entry is written in one way only, so a bracket too many or too few shows when it is written again.
    if not is_entry(entry) or entry_text(entry) != text:
        raise NoText("no entry is written so")
    return entry


def read_sum(text):
    """The sum that is written so."""
    parts, total = parts_and_total(text)
    page = tuple([read_entry(part) for part in parts]), read_entry(total)
    if not is_sum(page):
        raise NoText("no sum is written so")
    return page


def read_pages(text):
    """The pages that are written so."""
    pages = tuple([read_sum(row) for row in as_text(text).split("\n")])
    if not are_pages(pages):
        raise NoText("no pages are written so")
    return pages


def read_riddle(text):
    """The riddle that is written so."""
    words, total = parts_and_total(text)
    riddle = tuple(words), total
    if not is_riddle(riddle):
        raise NoText("no riddle is written so")
    return riddle

"""Whether a text, or a row, is written as the document says: by its signs alone."""

import re

SIGNS = [chr(sign) for sign in [10, *range(32, 127)] if sign != 37]
ALONE = ["back", "again", "sum", "many", "settled", "narrow", "mend", "carries"]
NUMBER = r"(?:0|[1-9][0-9]{0,8})"


def is_bracketed(text):
    return all(one < other for one, other in zip(text, text[1:])) and 2 <= len(text) <= 9


def is_entry_written(text):
    spots = re.findall(r"[0-9?]|\[[0-9]*\]|(?:.|\n)", text)
    return 1 <= len(spots) <= 12 and all(re.fullmatch(r"[0-9?]", spot) or
                                         (re.fullmatch(r"\[[0-9]+\]", spot) and is_bracketed(spot[1:-1]))
                                         for spot in spots)


def is_sum_written(text, most_parts=8, most_spots=12):
    sides = text.split(" = ")
    if len(sides) != 2:
        return False
    entries = [*sides[0].split(" + "), sides[1]]
    if len(entries) > most_parts + 1 or not all(map(is_entry_written, entries)):
        return False
    return all(len(re.sub(r"\[[0-9]*\]", "?", entry)) <= most_spots for entry in entries)


def are_pages_written(text):
    rows = text.split("\n")
    return len(rows) <= 2 and all(is_sum_written(row, 3, 6) for row in rows)


def is_riddle_written(text):
    found = re.fullmatch(r"[a-z]{1,8}(?: \+ [a-z]{1,8}){0,3} = [a-z]{1,8}", text)
    return bool(found) and len(set(text) - set(" +=")) <= 6


def is_row(text):
    if text in ALONE or re.fullmatch(rf"(?:at|strike) {NUMBER}", text):
        return True
    if re.fullmatch(rf"look {NUMBER} {NUMBER} [^ ]*", text):
        return True
    word, blank, rest = text.partition(" ")
    written = {"page": is_sum_written, "add": is_entry_written, "riddle": is_riddle_written}
    return word in written and blank == " " and written[word](rest)

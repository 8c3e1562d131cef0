"""Promise 17, and 2 as far as it speaks of texts: each text against one that is made here."""

import inspect
import random
import unittest

import brute
from brute import BLOT, THINGS
from blotsum import texts
from blotsum.errors import BlotError, NoText, ToldError
from blotsum.texts import (entry_text, pages_text, read_entry, read_pages, read_riddle, read_sum, riddle_text,
                           sum_text)
from written import SIGNS, are_pages_written, is_entry_written, is_riddle_written, is_sum_written

CHANCE = random.Random(171)
ALL_BLOTS = (((BLOT,) * 12,) * 8, (BLOT,) * 12)
ENTRIES = [brute.some_entry(CHANCE, 12) for _ in range(150)]
ENTRIES += [("0",), ("9",), (BLOT,), (BLOT,) * 12, ("01",), ("012345678",), ("123456789",), ("0", "1"), ("38", BLOT)]
SUMS = brute.some_pages(172, 60, most_parts=8, most_spots=12, most_figures=10) + [ALL_BLOTS, ((("0",),), ("0",))]
SMALL = brute.some_pages(173, 40, most_parts=3, most_spots=5, most_figures=10)
SMALL = [(parts, total[:6]) for parts, total in SMALL]
PAGES = [(one,) for one in SMALL] + list(zip(SMALL, SMALL[1:]))
RIDDLES = [brute.some_riddle(CHANCE, CHANCE.sample("abcdefghijklmnopqrstuvwxyz", 6)) for _ in range(60)]
RIDDLES += [(("a",), "a"), (("a",) * 4, "z"), (("abcdefab",), "abcdefab")]


def riddle_made(riddle):
    text = ""
    for word in riddle[0]:
        text += (" + " if text else "") + word
    return text + " = " + riddle[1]


def pages_made(pages):
    return brute.sum_text(pages[0]) + "".join("\n" + brute.sum_text(page) for page in pages[1:])


def near(text, chance, many):
    """Texts with one sign otherwise, left out, or put in."""
    for _ in range(many):
        at = chance.randrange(len(text))
        sign = chance.choice([*SIGNS, *"0123456789[]?+= ab\n" * 3])
        yield text[:at] + sign + text[at + 1:]
        yield text[:at] + text[at + 1:]
        yield text[:at] + sign + text[at:]
        other = chance.randrange(len(text))
        yield text[:min(at, other)] + text[max(at, other):]
    yield from (text + " ", " " + text, text + "\n", "\n" + text, text + text, text[::-1])


class Written(unittest.TestCase):
    def test_entries(self):
        for entry in ENTRIES:
            self.assertEqual(entry_text(entry), brute.entry_text(entry))

    def test_sums(self):
        for page in SUMS:
            self.assertEqual(sum_text(page), brute.sum_text(page))

    def test_pages(self):
        for pages in PAGES:
            self.assertEqual(pages_text(pages), pages_made(pages))

    def test_riddles(self):
        for riddle in RIDDLES:
            self.assertEqual(riddle_text(riddle), riddle_made(riddle))

    def test_by_hand(self):
        self.assertEqual(entry_text(("3", "38", BLOT, "0", "012345678")), "3[38]?0[012345678]")
        self.assertEqual(sum_text(((("38", "5"), (BLOT,)), ("9", BLOT))), "[38]5 + ? = 9?")
        self.assertEqual(sum_text(((("7",),), ("7",))), "7 = 7")
        self.assertEqual(pages_text((((("1",), ("2",)), ("3",)), ((("3",),), (BLOT,)))), "1 + 2 = 3\n3 = ?")
        self.assertEqual(riddle_text((("ab", "ba"), "cc")), "ab + ba = cc")


class ReadBack(unittest.TestCase):
    def test_there_and_back(self):
        for things, write, read in ((ENTRIES, entry_text, read_entry), (SUMS, sum_text, read_sum),
                                    (PAGES, pages_text, read_pages), (RIDDLES, riddle_text, read_riddle)):
            for thing in things:
                self.assertEqual(read(write(thing)), thing)

    def test_of_texts_made_here(self):
        for things, write, read in ((ENTRIES, brute.entry_text, read_entry), (SUMS, brute.sum_text, read_sum),
                                    (PAGES, pages_made, read_pages), (RIDDLES, riddle_made, read_riddle)):
            for thing in things:
                self.assertEqual(read(write(thing)), thing)

    def test_kinds_of_values(self):
        parts, total = read_sum("[38]5 + ? = 9?")
        self.assertEqual([type(parts), type(parts[0]), type(parts[0][0]), type(total)], [tuple, tuple, str, tuple])
        self.assertEqual([type(read_pages("1 = 1")), type(read_riddle("a = a")), type(read_riddle("a = a")[0])],
                         [tuple] * 3)


class Refused(unittest.TestCase):
    def refused(self, read, text):
        with self.assertRaises(NoText) as caught:
            read(text)
        self.assertIs(type(caught.exception), NoText)
        self.assertIsInstance(caught.exception, ToldError)

    def test_entries(self):
        for text in ("", "[3]", "[0123456789]", "[83]", "[33]", "[]", "[", "]", "[38", "38]", "[3 8]", "[?]", "[3?]",
                     "[[38]]", "[38]]", "[[38]", "3 8", " 3", "3 ", "3\n", "\n3", "a", "-3", "+3", "3.", "*", "??\n",
                     "?" * 13, "[38]" * 13, "1" * 13, "1" * 2000, "?" * 2000, "[" * 2000, "]" * 2000, "[38", "?[",
                     "[38][", "()", "('3',)", "[3,8]", "3]", "[01234567899]", "[98]", "[120]", "3[8"):
            self.refused(read_entry, text)

    def test_sums(self):
        for text in ("", "3", "3 = ", " = 3", " = ", "=", "3=3", "3 =3", "3= 3", "3  = 3", "3 =  3", "3 = 3 ", " 3 = 3",
                     "3 = 3\n", "\n3 = 3", "3 + = 3", "3 +  = 3", "+ 3 = 3", " + 3 = 3", "3 + + 3 = 6", "3 +  + 3 = 6",
                     "3+3 = 6", "3 +3 = 6", "3+ 3 = 6", "3  + 3 = 6", "3 +  3 = 6", "3 + 3 == 6", "3 = 3 = 3",
                     "3 = 3 + 3", "3 + 3", "3 - 3 = 0", "[3] = 3", "3 = [0123456789]", "a = a", "3 = 3\n3 = 3",
                     " + ".join("1" * 9) + " = 9", "1" * 13 + " = 1", "1 = " + "1" * 13):
            self.refused(read_sum, text)
        self.assertEqual(read_sum(" + ".join("1" * 8) + " = 8"), ((("1",),) * 8, ("8",)))

    def test_pages(self):
        for text in ("", "\n", "3", "3 = 3\n", "\n3 = 3", "3 = 3\n\n3 = 3", "3 = 3\n3 = 3\n", "3 = 3\n3 = 3\n3 = 3",
                     "3 = 3 3 = 3", "3 = 3 \n3 = 3", "3 = 3\n 3 = 3", "1 + 1 + 1 + 1 = 4", "1 = 1\n1 + 1 + 1 + 1 = 4",
                     "1111111 = 1", "1 = 1111111", "1 = 1\n1 = ???????", "3 = 3\\n3 = 3", "3 = 3\n3"):
            self.refused(read_pages, text)
        self.assertEqual(read_pages("3 = 3\n3 = 3"), (((("3",),), ("3",)),) * 2)
        self.assertEqual(read_pages("1 + 1 + 111111 = ??????"),
                         (((("1",), ("1",), ("1",) * 6), (BLOT,) * 6),))

    def test_riddles(self):
        for text in ("", "a", "a = ", " = a", "a=a", "a  = a", "a = a ", " a = a", "a = a\n", "\na = a", "A = a",
                     "a + = a", "a +  = a", "a +a = a", "a + a + a + a + a = a", "a = a = a", "a = a + a", "a1 = a",
                     "? = a", "1 = 1", "aaaaaaaaa = a", "a = aaaaaaaaa", "abcdefg = a", "abc + def = g", "a b = c",
                     "send + more = money"):
            self.refused(read_riddle, text)

    def test_anything(self):
        for thing in THINGS:
            for read, is_written in ((read_entry, is_entry_written), (read_sum, is_sum_written),
                                     (read_pages, are_pages_written), (read_riddle, is_riddle_written)):
                if not isinstance(thing, str) or not is_written(thing):
                    self.refused(read, thing)
        for read in (read_entry, read_sum, read_pages, read_riddle):
            for thing in (b"3", ["3"], ("3",), ((("3",),), ("3",)), (("a",), "a")):
                self.refused(read, thing)

    def test_one_sign_otherwise(self):
        chance = random.Random(174)
        seen = {True: 0, False: 0}
        for things, write, read, again, is_written in (
                (ENTRIES, entry_text, read_entry, brute.entry_text, is_entry_written),
                (SUMS, sum_text, read_sum, brute.sum_text, is_sum_written),
                (PAGES, pages_text, read_pages, pages_made, are_pages_written),
                (RIDDLES, riddle_text, read_riddle, riddle_made, is_riddle_written)):
            for thing in things:
                self.assertIs(is_written(write(thing)), True)
                for text in near(write(thing), chance, 12):
                    right = is_written(text)
                    seen[right] += 1
                    if right:
                        self.assertEqual(again(read(text)), text)
                    else:
                        self.refused(read, text)
        self.assertGreater(min(seen.values()), 2000)

    def test_all_short_texts(self):
        for first in ["", *SIGNS]:
            for second in ["", *SIGNS]:
                text = first + second
                if is_entry_written(text):
                    self.assertEqual(brute.entry_text(read_entry(text)), text)
                else:
                    self.refused(read_entry, text)
                for read in (read_sum, read_pages, read_riddle):
                    self.refused(read, text)


class Manners(unittest.TestCase):
    def test_names_of_the_arguments(self):
        told = {"entry_text": "(entry)", "sum_text": "(page)", "pages_text": "(pages)", "riddle_text": "(riddle)",
                "read_entry": "(text)", "read_sum": "(text)", "read_pages": "(text)", "read_riddle": "(text)"}
        for name, arguments in told.items():
            self.assertEqual(str(inspect.signature(getattr(texts, name))), arguments)

    def test_a_refusal_is_a_blot_error(self):
        self.assertRaises(BlotError, read_entry, None)
        self.assertRaises(ValueError, read_entry, "")


if __name__ == "__main__":
    unittest.main()

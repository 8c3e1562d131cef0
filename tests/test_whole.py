"""Promises 2 and 3 over the whole program, and the interface: names, arguments, refusals, things of any kind."""

import copy
import importlib
import inspect
import os
import pathlib
import random
import subprocess
import sys
import time
import unittest

import brute
from brute import BLOT, THINGS
from written import SIGNS, are_pages_written, is_entry_written, is_riddle_written, is_row, is_sum_written
from blotsum import errors
from blotsum.carries import carries, paper_of, shows_none
from blotsum.clerks import Clerk
from blotsum.desk import Desk
from blotsum.entries import (ends_of, how_many_readings, is_entry, is_reading, is_spot, reading_at, readings_below,
                             remainders)
from blotsum.pages import are_pages, pages_at, pages_many, pages_narrowed, pages_number
from blotsum.products import is_product, times_at, times_many, times_narrowed
from blotsum.riddles import is_riddle, is_solution, solutions_many, solved, sum_of_riddle
from blotsum.slips import mended
from blotsum.sums import filling_at, how_many, is_filling, is_sum, narrowed, number_of, shares
from blotsum.texts import (entry_text, pages_text, read_entry, read_pages, read_riddle, read_sum, riddle_text,
                           sum_text)

INTERFACE = {
    "entries": ["is_spot(thing)", "is_entry(thing)", "how_many_readings(entry)", "readings_below(entry, number)",
                "ends_of(entry)", "is_reading(entry, number)", "reading_at(entry, number)",
                "remainders(entry, divisor=9)"],
    "sums": ["is_sum(thing)", "is_filling(page, thing)", "how_many(page)", "filling_at(page, number)",
             "number_of(page, thing)", "shares(page)", "narrowed(page)"],
    "carries": ["carries(page)", "shows_none(page, paper)", "paper_of(page)"],
    "slips": ["mended(page)"],
    "pages": ["are_pages(thing)", "pages_many(pages)", "pages_at(pages, number)", "pages_number(pages, thing)",
              "pages_narrowed(pages)"],
    "products": ["is_product(thing)", "times_many(product)", "times_at(product, number)", "times_narrowed(product)"],
    "riddles": ["is_riddle(thing)", "is_solution(riddle, thing)", "solutions_many(riddle)", "solved(riddle)",
                "sum_of_riddle(riddle)"],
    "clerks": ["Clerk(page)"],
    "texts": ["entry_text(entry)", "sum_text(page)", "pages_text(pages)", "riddle_text(riddle)", "read_entry(text)",
              "read_sum(text)", "read_pages(text)", "read_riddle(text)"],
    "desk": ["Desk()"],
}
ENTRY = ("38", "05")
PAGE = ((("38", "05"), ("5",)), ("48", "0"))
NONE = ((("12",),), ("3",))
WAYS = (((BLOT,), (BLOT,)), (BLOT, BLOT))
PAGES = (((("38",), ("5",)), ("8",)), ((("8",), ("1",)), ("9",)))
PAGES_NONE = (((("3",),), ("3",)), ((("4",),), ("4",)))
PRODUCT = (("14", "2"), "38", ("3", "36"))
PRODUCT_NONE = (("1",), "1", ("2",))
RIDDLE = (("ab", "ba"), "cc")
EIGHT = ((("1",),) * 8, ("8",))


def desk_with(text):
    desk = Desk()
    desk.say("page " + text)
    return desk


# Each refusal of the program: what is asked, the class, its family, and its fields.
ASKED, TOLD, NUMBER = errors.AskedError, errors.ToldError, IndexError
REFUSALS = [
    (lambda: reading_at(ENTRY, 4), errors.NoNumber, NUMBER, {"number": 4, "among": 4}),
    (lambda: reading_at(("0", "1"), 0), errors.NoNumber, NUMBER, {"number": 0, "among": 0}),
    (lambda: reading_at(ENTRY, -1), errors.NoNumber, NUMBER, {"number": -1, "among": 4}),
    (lambda: remainders(ENTRY, 1), errors.NoDivisor, ASKED, {"divisor": 1}),
    (lambda: remainders(ENTRY, 100), errors.NoDivisor, ASKED, {"divisor": 100}),
    (lambda: remainders(divisor=-9, entry=ENTRY), errors.NoDivisor, ASKED, {"divisor": -9}),
    (lambda: filling_at(PAGE, 1), errors.NoNumber, NUMBER, {"number": 1, "among": 1}),
    (lambda: number_of(PAGE, (35, 5, 41)), errors.NoFilling, ASKED, {}),
    (lambda: narrowed(NONE), errors.NoFilling, ASKED, {}),
    (lambda: paper_of(PAGE), errors.NoPaper, ASKED, {}),
    (lambda: pages_at(PAGES, 1), errors.NoNumber, NUMBER, {"number": 1, "among": 1}),
    (lambda: pages_number(PAGES, ((3, 5, 8), (8, 1, 10))), errors.NoFilling, ASKED, {}),
    (lambda: pages_narrowed(PAGES_NONE), errors.NoFilling, ASKED, {}),
    (lambda: times_at(PRODUCT, -1), errors.NoNumber, NUMBER, {"number": -1, "among": 1}),
    (lambda: times_narrowed(PRODUCT_NONE), errors.NoFilling, ASKED, {}),
    (lambda: Clerk(None), errors.NoSum, TOLD, {}),
    (lambda: Clerk(PAGE).look(3, 0, "3"), errors.NoSpot, TOLD, {"entry": 3, "spot": 0}),
    (lambda: Clerk(PAGE).look(0, -1, ""), errors.NoSpot, TOLD, {"entry": 0, "spot": -1}),
    (lambda: Clerk(PAGE).look(0, 0, "83"), errors.NoFigures, TOLD, {}),
    (lambda: Clerk(PAGE).look(0, 0, "8"), errors.Clash, TOLD, {"entry": 0, "spot": 0}),
    (lambda: Clerk(PAGE).look(2, 1, "1"), errors.Clash, TOLD, {"entry": 2, "spot": 1}),
    (lambda: Clerk(PAGE).add(None), errors.NoEntry, TOLD, {}),
    (lambda: Clerk(EIGHT).add(["1"]), errors.NoEntry, TOLD, {}),
    (lambda: Clerk(EIGHT).add(("1",)), errors.TooMany, TOLD, {}),
    (lambda: Clerk(PAGE).strike(2), errors.NoSpot, TOLD, {"entry": 2, "spot": None}),
    (lambda: Clerk(NONE).strike(1), errors.NoSpot, TOLD, {"entry": 1, "spot": None}),
    (lambda: Clerk(NONE).strike(0), errors.TooFew, TOLD, {}),
    (lambda: Clerk(PAGE).back(), errors.NothingLeft, TOLD, {}),
    (lambda: Clerk(PAGE).again(), errors.NothingLeft, TOLD, {}),
    (lambda: read_entry("[3]"), errors.NoText, TOLD, {}),
    (lambda: read_sum("3"), errors.NoText, TOLD, {}),
    (lambda: read_pages("3 = 3\n"), errors.NoText, TOLD, {}),
    (lambda: read_riddle("a + a"), errors.NoText, TOLD, {}),
    (lambda: Desk().say("say"), errors.NoRow, TOLD, {}),
    (lambda: Desk().say("add [3]"), errors.NoRow, TOLD, {}),
    (lambda: Desk().say("look 3 0 "), errors.NoSpot, TOLD, {"entry": 3, "spot": 0}),
    (lambda: Desk().say("look 0 0 "), errors.NoFigures, TOLD, {}),
    (lambda: Desk().say("look 2 0 2"), errors.Clash, TOLD, {"entry": 2, "spot": 0}),
    (lambda: Desk().say("strike 2"), errors.NoSpot, TOLD, {"entry": 2, "spot": None}),
    (lambda: Desk().say("back"), errors.NothingLeft, TOLD, {}),
    (lambda: Desk().say("at 45"), errors.NoNumber, NUMBER, {"number": 45, "among": 45}),
    (lambda: desk_with("1 = 2").say("narrow"), errors.NoFilling, ASKED, {}),
    (lambda: desk_with("1 = 2").say("strike 0"), errors.TooFew, TOLD, {}),
    (lambda: desk_with("1 + 1 + 1 + 1 + 1 + 1 + 1 + 1 = 8").say("add 1"), errors.TooMany, TOLD, {}),
]

QUESTIONS = [
    lambda: how_many_readings(ENTRY), lambda: ends_of(ENTRY), lambda: readings_below(ENTRY, 80),
    lambda: is_reading(ENTRY, 35), lambda: reading_at(ENTRY, 3), lambda: remainders(ENTRY), lambda: remainders(ENTRY, 5),
    lambda: how_many(WAYS), lambda: filling_at(WAYS, 44), lambda: number_of(WAYS, (9, 9, 18)), lambda: shares(WAYS),
    lambda: narrowed(WAYS), lambda: carries(WAYS), lambda: paper_of(NONE), lambda: shows_none(NONE, [[0], []]),
    lambda: mended(PAGE), lambda: mended(NONE), lambda: pages_many(PAGES), lambda: pages_at(PAGES, 0),
    lambda: pages_number(PAGES, ((3, 5, 8), (8, 1, 9))), lambda: pages_narrowed(PAGES), lambda: times_many(PRODUCT),
    lambda: times_at(PRODUCT, 0), lambda: times_narrowed(PRODUCT), lambda: solutions_many(RIDDLE),
    lambda: solved(RIDDLE), lambda: sum_of_riddle(RIDDLE), lambda: Clerk(PAGE).settled(), lambda: Clerk(PAGE).many(),
    lambda: str(Clerk(PAGE)), lambda: entry_text(ENTRY), lambda: sum_text(PAGE), lambda: pages_text(PAGES),
    lambda: riddle_text(RIDDLE), lambda: read_entry("[38]?"), lambda: read_sum("? = ?"),
    lambda: read_pages("3 = 3\n3 = 3"), lambda: read_riddle("ab + ba = cc"), lambda: Desk().say("mend"),
    lambda: Desk().say("riddle ab + ba = cc"),
]


def some_thing(chance, depth):
    """Anything made of what the document lists, so many within one another at most."""
    if depth == 0 or chance.random() < 0.3:
        number = chance.choice([0, 1, 3, 8, -1, 10 ** 39, chance.randint(-10 ** 40 + 1, 10 ** 40 - 1)])
        text = "".join(chance.choice([*SIGNS, *"0123456789abc? +=[]\n" * 2]) for _ in range(chance.randrange(8)))
        return chance.choice([number, True, False, None, text, "3", "38", BLOT, "a", "ab", "?", "3 = 3", "a = a"])
    things = [some_thing(chance, depth - 1) for _ in range(chance.choice([0, 1, 1, 2, 2, 2, 3]))]
    return chance.choice([list, tuple])(things)


def variants(thing):
    """A thing, and near ones: with one that is within it of another kind, left out, or there twice."""
    yield from (thing, None, True, [thing], (thing,), 3, "")
    if isinstance(thing, tuple):
        yield list(thing)
        for at, one in enumerate(thing):
            yield thing[:at] + thing[at + 1:]
            yield thing[:at] + (one,) + thing[at:]
            for other in variants(one):
                yield (*thing[:at], other, *thing[at + 1:])


CHANCE = random.Random(21)
ANYTHING = [*THINGS, *[some_thing(CHANCE, 1 + at % 6) for at in range(1500)]]
ANYTHING += [one for thing in (ENTRY, PAGE, PAGES, PRODUCT, RIDDLE) for one in variants(thing)]


def spot_right(thing):
    return type(thing) is str and thing != "" and list(thing) == sorted(set(thing)) and set(thing) <= set(BLOT)


def entry_right(thing):
    return type(thing) is tuple and 1 <= len(thing) <= 12 and all(map(spot_right, thing))


def sum_right(thing):
    return (type(thing) is tuple and len(thing) == 2 and type(thing[0]) is tuple and 1 <= len(thing[0]) <= 8
            and all(map(entry_right, thing[0])) and entry_right(thing[1]))


def pages_right(thing):
    return (type(thing) is tuple and 1 <= len(thing) <= 2 and all(map(sum_right, thing))
            and all(len(page[0]) <= 3 and max(map(len, (*page[0], page[1]))) <= 6 for page in thing))


def product_right(thing):
    return (type(thing) is tuple and len(thing) == 3 and entry_right(thing[0]) and spot_right(thing[1])
            and entry_right(thing[2]))


def word_right(thing):
    return type(thing) is str and 1 <= len(thing) <= 8 and all("a" <= sign <= "z" for sign in thing)


def riddle_right(thing):
    return (type(thing) is tuple and len(thing) == 2 and type(thing[0]) is tuple and 1 <= len(thing[0]) <= 4
            and all(map(word_right, (*thing[0], thing[1]))) and len(set("".join((*thing[0], thing[1])))) <= 6)


class Interface(unittest.TestCase):
    def test_names_and_arguments(self):
        for module, told in INTERFACE.items():
            found = importlib.import_module("blotsum." + module)
            for one in told:
                name, bracket, arguments = one.partition("(")
                self.assertEqual(str(inspect.signature(getattr(found, name))), "(" + arguments, name)
                self.assertEqual(getattr(found, name).__module__, "blotsum." + module)

    def test_refusals(self):
        for ask, kind, family, fields in REFUSALS:
            with self.assertRaises((errors.BlotError, IndexError)) as caught:
                ask()
            error = caught.exception
            self.assertIs(type(error), kind)
            self.assertIsInstance(error, family)
            self.assertEqual(vars(error), fields)
            self.assertIsInstance(str(error), str)
            self.assertEqual(isinstance(error, errors.BlotError), kind is not errors.NoNumber)

    def test_each_refusal_is_there(self):
        kinds = {kind for ask, kind, family, fields in REFUSALS}
        told = {one for one in vars(errors).values() if inspect.isclass(one)}
        self.assertEqual(told - kinds, {errors.BlotError, errors.AskedError, errors.ToldError})


class OfAnything(unittest.TestCase):
    def test_true_or_false(self):
        for thing in ANYTHING:
            for ask, right in ((is_spot, spot_right), (is_entry, entry_right), (is_sum, sum_right),
                               (are_pages, pages_right), (is_product, product_right), (is_riddle, riddle_right)):
                self.assertIs(ask(thing), right(thing), thing)

    def test_there_are_some_of_each(self):
        for right in (spot_right, entry_right, sum_right, pages_right, product_right, riddle_right):
            self.assertGreater(sum(map(right, ANYTHING)), 2, right)

    def test_no_fillings_and_no_solutions(self):
        for thing in ANYTHING:
            for page in (PAGE, WAYS, NONE):
                self.assertIs(is_filling(page, thing), False, thing)
                self.assertRaises(errors.NoFilling, number_of, page, thing)
            self.assertRaises(errors.NoFilling, pages_number, PAGES, thing)
            self.assertIs(is_solution(RIDDLE, thing), False, thing)

    def test_refused(self):
        clerk, desk = Clerk(WAYS), Desk()
        for thing in ANYTHING:
            if not sum_right(thing):
                self.assertRaises(errors.NoSum, Clerk, thing)
            if not spot_right(thing):
                self.assertRaises(errors.NoFigures, clerk.look, 0, 0, thing)
            if not entry_right(thing):
                self.assertRaises(errors.NoEntry, clerk.add, thing)
            for read, is_written in ((read_entry, is_entry_written), (read_sum, is_sum_written),
                                     (read_pages, are_pages_written), (read_riddle, is_riddle_written)):
                if type(thing) is not str or not is_written(thing):
                    self.assertRaises(errors.NoText, read, thing)
            if type(thing) is not str or not is_row(thing):
                self.assertRaises(errors.NoRow, desk.say, thing)
        self.assertTrue(clerk == Clerk(WAYS))
        self.assertRaises(errors.NothingLeft, clerk.back)
        self.assertEqual(desk.say("sum"), "? + ? = ??")

    def test_any_whole_numbers(self):
        clerk = Clerk(WAYS)
        for number in (-1, -2, -45, 45, 46, 10 ** 39, 10 ** 40 - 1, -(10 ** 40) + 1, 10 ** 90):
            for ask, told, among in ((reading_at, ENTRY, 4), (filling_at, WAYS, 45), (pages_at, PAGES, 1),
                                     (times_at, PRODUCT, 1)):
                with self.assertRaises(errors.NoNumber) as caught:
                    ask(told, number)
                self.assertEqual((caught.exception.number, caught.exception.among), (number, among))
            self.assertIs(is_reading(ENTRY, number), False)
            for entry, spot in ((number, 0), (0, number), (number, number)):
                self.assertRaises(errors.NoSpot, clerk.look, entry, spot, "3")
            self.assertRaises(errors.NoSpot, clerk.strike, number)
            if not 2 <= number <= 99:
                self.assertRaises(errors.NoDivisor, remainders, ENTRY, number)

    def test_truths_are_no_whole_numbers(self):
        self.assertIs(is_filling(((("1",),), ("1",)), (True, 1)), False)
        self.assertIs(is_filling(((("0",),), ("0",)), (0, False)), False)
        self.assertIs(is_solution((("a",), "a"), [("a", True)]), False)
        self.assertRaises(errors.NoFilling, pages_number, (((("1",),), ("1",)),), ((True, 1),))
        for truth in (True, False):
            self.assertIs(is_reading((BLOT,), truth), False)
            self.assertRaises(errors.NoSpot, Clerk(WAYS).strike, truth)
            self.assertRaises(errors.NoSpot, Clerk(WAYS).look, truth, 0, "3")
            self.assertRaises(errors.NoSpot, Clerk(WAYS).look, 0, truth, "3")

    def test_nothing_handed_in_is_changed(self):
        kept = copy.deepcopy(ANYTHING)
        clerk, desk = Clerk(WAYS), Desk()
        for thing in ANYTHING:
            for ask in (is_entry, is_sum, are_pages, is_product, is_riddle, Clerk, clerk.add, read_entry, read_pages,
                        desk.say, lambda told: is_solution(RIDDLE, told), lambda told: clerk.look(0, 0, told),
                        lambda told: number_of(WAYS, told), lambda told: pages_number(PAGES, told)):
                try:
                    ask(thing)
                except errors.BlotError:
                    pass
        self.assertEqual(repr(ANYTHING), repr(kept))


class TheSame(unittest.TestCase):
    def test_answers(self):
        first = [ask() for ask in QUESTIONS]
        chance = random.Random(22)
        for _ in range(3):
            order = chance.sample(range(len(QUESTIONS)), len(QUESTIONS))
            told = {at: QUESTIONS[at]() for at in order}
            for ask, kind, family, fields in REFUSALS:
                self.assertRaises(kind, ask)
            self.assertEqual([told[at] for at in range(len(QUESTIONS))], first)

    def test_lists_are_the_askers_own(self):
        def empty(thing):
            if isinstance(thing, (list, tuple)):
                for one in thing:
                    empty(one)
            if isinstance(thing, list):
                thing.clear()

        first = [copy.deepcopy(ask()) for ask in QUESTIONS]
        for ask in QUESTIONS:
            empty(ask())
        self.assertEqual([ask() for ask in QUESTIONS], first)

    def test_in_another_process(self):
        # The order within sets of texts is another one there.
        here = pathlib.Path(__file__).resolve().parent
        row = "import test_whole; print([ask() for ask in test_whole.QUESTIONS])"
        told = set()
        for seed in ("0", "1", "77"):
            place = {**os.environ, "PYTHONHASHSEED": seed, "PYTHONPATH": os.pathsep.join([str(here.parent), str(here)])}
            done = subprocess.run([sys.executable, "-c", row], env=place, capture_output=True, text=True, check=True)
            told.add(done.stdout)
        self.assertEqual(told, {repr([ask() for ask in QUESTIONS]) + "\n"})


class HandedInAgain(unittest.TestCase):
    def test_great_numbers(self):
        page = (((BLOT,) * 12,) * 8, (BLOT,) * 12)
        many = how_many(page)
        self.assertGreater(many, 10 ** 40)
        self.assertEqual(number_of(page, filling_at(page, many - 1)), many - 1)
        slips, most, first = mended(page)
        self.assertEqual((slips, most, first), (0, many, filling_at(page, 0)))
        for thing in (many, (many,) * 9, [many], str(many), (slips, most, first)):
            self.assertIs(is_filling(page, thing), False)
            self.assertRaises(errors.NoEntry, Clerk(((("1",),), ("1",))).add, thing)
            self.assertRaises(errors.NoRow, Desk().say, thing)
            self.assertIs(is_solution(RIDDLE, thing), False)
        self.assertIs(is_solution((("a",), "a"), [("a", many)]), False)
        self.assertRaises(errors.NoSpot, Clerk(page).look, many, many, "3")
        self.assertRaises(errors.NoSpot, Clerk(page).strike, many)
        self.assertRaises(errors.NoRow, Desk().say, f"at {many}")

    def test_what_one_tells_the_other_takes(self):
        for page in brute.some_pages(23, 60):
            clerk = Clerk(page)
            self.assertTrue(Clerk(read_sum(str(clerk))) == clerk)
            desk = desk_with(str(clerk))
            self.assertEqual(desk.say("many"), str(clerk.many()))
            if clerk.many():
                narrow = read_sum(desk.say("narrow"))
                self.assertEqual(narrow, narrowed(page))
                looked = Clerk(page)
                for at, entry in enumerate((*narrow[0], narrow[1])):
                    for spot, figures in enumerate(entry):
                        looked.look(at, spot, figures)
                self.assertTrue(looked == Clerk(narrow))
                self.assertEqual(looked.settled(), [])
            else:
                self.assertIs(shows_none(page, paper_of(page)), True)

    def test_riddles_as_sums(self):
        for riddle in (RIDDLE, (("a", "a"), "ba"), (("abc", "abc"), "bca"), (("abcd", "dcba"), "efefe")):
            clerk = Clerk(sum_of_riddle(riddle))
            for solution in solved(riddle)[1:]:
                signs = {ord(letter): str(figure) for letter, figure in solution}
                looked = Clerk(clerk.page())
                for at, word in enumerate((*riddle[0], riddle[1])):
                    for spot, figure in enumerate(word.translate(signs)):
                        looked.look(at, spot, figure)
                self.assertEqual(looked.many(), 1)


class Soon(unittest.TestCase):
    def test_texts_and_rows_of_two_thousand_signs(self):
        began = time.monotonic()
        for sign in SIGNS:
            for read in (read_entry, read_sum, read_pages, read_riddle):
                self.assertRaises(errors.NoText, read, sign * 2000)
            self.assertRaises(errors.NoRow, Desk().say, sign * 2000)
        for text in ("[38]" * 500, "3 = 3\n" * 333, "1 + " * 500, " = " * 666, "a + " * 500, "[" * 1000 + "]" * 1000):
            for read in (read_entry, read_sum, read_pages, read_riddle):
                self.assertRaises(errors.NoText, read, text)
            for word in ("page ", "add ", "riddle ", "at ", "strike ", "look "):
                self.assertRaises(errors.NoRow, Desk().say, word + text)
        self.assertRaises(errors.NoFigures, Desk().say, "look 0 0 " + "3" * 1990)
        self.assertLess(time.monotonic() - began, 10)


if __name__ == "__main__":
    unittest.main()

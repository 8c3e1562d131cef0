"""Promises 6 and 7, and 2 and 3 as far as they speak of sums; small sums, all fillings gone through."""

import copy
import inspect
import unittest

import brute
from brute import BLOT, THINGS
from blotsum import sums
from blotsum.entries import is_entry
from blotsum.errors import AskedError, BlotError, NoFilling, NoNumber
from blotsum.sums import filling_at, how_many, is_filling, is_sum, narrowed, number_of, shares

ONES = ((("1",), ("1",)), ("2",))
EDGES = [
    ONES,
    ((("0",),), ("0",)),
    (((BLOT,),), (BLOT,)),
    (((BLOT,), (BLOT,)), (BLOT, BLOT)),
    (((BLOT,), (BLOT,)), (BLOT,)),
    (((BLOT, BLOT), (BLOT,)), (BLOT, BLOT, BLOT)),
    ((("38", BLOT), ("05", "5")), ("19", BLOT)),
    ((("9",), ("9",)), ("1", "8")),
    ((("9",), ("9", "9")), ("1", "0", "8")),
    ((("05",), ("05",)), ("01", "0")),
    ((("05",), ("05",)), ("0",)),
    ((("09", "9"), ("01",)), ("01", "0", "0")),
    ((("01",),) * 8, ("0123456789",)),
    ((("09",),) * 8, (BLOT, BLOT)),
    ((("29",),) * 8, (BLOT, BLOT)),
    ((("9", "9"),) * 8, ("7", "9", "2")),
    ((("1", "2", "3"), ("4",)), ("1", "2", "7")),
    ((("4",), ("1", "2", "3")), ("1", "2", "7")),
]
WITHOUT = [
    ((("09",),) * 8, ("0", BLOT)),
    ((("1",),), ("2",)),
    ((("1",), ("1",)), ("0", "2")),
    ((("0", "1"),), ("1",)),
    ((("0", "1"),), ("0", "1")),
    ((("0", BLOT), (BLOT,)), (BLOT, BLOT)),
    (((BLOT, BLOT),), (BLOT,)),
    ((("1", "0", "0"), ("5",)), (BLOT, BLOT)),
    ((("9", "9"),) * 8, (BLOT, BLOT)),
    ((("1",),), (BLOT, BLOT)),
    ((("2468",), ("02468",)), ("1", "13579")),
]
SOME = brute.some_pages(1, 150) + brute.some_pages(2, 60, most_parts=5, most_spots=2)
SOME += brute.some_pages(3, 40, most_parts=2, most_spots=2, most_figures=10)
SOME += brute.some_pages(4, 30, most_parts=8, most_spots=1, most_figures=4)
SOME += [brute.great_page(seed, parts=2, most_spots=3)[0] for seed in range(60)]
ALL = EDGES + WITHOUT + SOME


def wrong_fillings(page):
    """Things that are near a filling of the sum and are none."""
    right = set(brute.fillings(page))
    near = list(THINGS)
    for filling in list(right)[:3]:
        near += [list(filling), filling[:-1], (*filling, 0), (filling,), tuple(map(str, filling)), filling + filling,
                 tuple((number,) for number in filling), (*filling[:-1], None), (None, *filling[1:])]
        for at in range(len(filling)):
            near += [(*filling[:at], filling[at] + more, *filling[at + 1:]) for more in (-10, -1, 1, 10, 10 ** 39)]
        near.append(tuple(-number for number in filling) if any(filling) else None)
    return [thing for thing in near if not (isinstance(thing, tuple) and is_whole_tuple(thing) and thing in right)]


def is_whole_tuple(thing):
    return all(type(number) is int for number in thing)


class Kinds(unittest.TestCase):
    def test_sums(self):
        for page in [*ALL, (((BLOT,) * 12,) * 8, (BLOT,) * 12)]:
            self.assertIs(is_sum(page), True, page)

    def test_no_sums(self):
        one = ("1",)
        for thing in (((), one), ((one,) * 9, one), ([one], one), ((one,), ["1"]), ((["1"],), one), [(one,), one],
                      ((one,), one, one), ((one,),), (one, one), ("1", "1"), ((one,), ()), (((),), one),
                      ((one, ()), one), ((("1",) * 13,), one), ((one,), ("1",) * 13), ((one,), "1"), (("1",), one),
                      ((("10",),), one), ((one,), ("10",)), ((one,), None), (None, one), ((one, None), one), ()):
            self.assertIs(is_sum(thing), False, thing)

    def test_sums_of_anything(self):
        for thing in THINGS:
            right = (isinstance(thing, tuple) and len(thing) == 2 and isinstance(thing[0], tuple)
                     and 1 <= len(thing[0]) <= 8 and all(map(is_entry, thing[0])) and is_entry(thing[1]))
            self.assertIs(is_sum(thing), right, thing)


class Fillings(unittest.TestCase):
    def test_numbered_there_and_back(self):
        for page in ALL:
            right = brute.fillings(page)
            self.assertEqual(how_many(page), len(right), page)
            numbers = range(len(right))
            if len(right) > 60:
                numbers = [*range(20), *range(20, len(right), len(right) // 20), len(right) - 1]
            for number in numbers:
                self.assertEqual(filling_at(page, number), right[number], page)
                self.assertEqual(number_of(page, right[number]), number, page)
                self.assertIs(is_filling(page, right[number]), True, page)

    def test_there_are_small_and_greater_ones(self):
        many = [len(brute.fillings(page)) for page in ALL]
        self.assertGreater(sum(one == 0 for one in many), 20)
        self.assertGreater(sum(0 < one < 10 for one in many), 40)
        self.assertGreater(sum(one >= 10 for one in many), 40)

    def test_without_any(self):
        for page in WITHOUT:
            self.assertEqual(how_many(page), 0, page)

    def test_no_number(self):
        for page in ALL[:60]:
            many = how_many(page)
            for number in (-(10 ** 40 - 1), -many - 1, -many if many else -3, -1, many, many + 1, 10 ** 40 - 1):
                with self.assertRaises(NoNumber) as caught:
                    filling_at(page, number)
                self.assertEqual((caught.exception.number, caught.exception.among), (number, many))
                self.assertNotIsInstance(caught.exception, BlotError)

    def test_a_truth_is_no_number(self):
        for truth in (True, False):
            with self.assertRaises(NoNumber) as caught:
                filling_at((((BLOT,),), (BLOT,)), truth)
            self.assertIs(caught.exception.number, truth)

    def test_no_fillings_of_anything(self):
        for page in ALL[:60]:
            for thing in wrong_fillings(page):
                self.assertIs(is_filling(page, thing), False, (page, thing))
                with self.assertRaises(NoFilling) as caught:
                    number_of(page, thing)
                self.assertIsInstance(caught.exception, AskedError)

    def test_truths_and_lists_are_no_fillings(self):
        for thing in ((True, 1, 2), (1, True, 2), (True, True, 2), [1, 1, 2], "112"):
            self.assertIs(is_filling(ONES, thing), False)
            self.assertRaises(NoFilling, number_of, ONES, thing)
        self.assertIs(is_filling(ONES, (1, 1, 2)), True)
        self.assertIs(is_filling(((("0",),), ("0",)), (False, False)), False)

    def test_readings_that_do_not_come_to_the_total(self):
        page = ((("12",), ("12",)), ("34",))
        self.assertIs(is_filling(page, (1, 1, 3)), False)
        self.assertIs(is_filling(page, (1, 2, 3)), True)
        self.assertRaises(NoFilling, number_of, page, (1, 1, 3))

    def test_what_comes_to_the_total_and_is_no_reading(self):
        self.assertIs(is_filling(((("1",), ("12",)), ("23",)), (2, 1, 3)), False)
        self.assertIs(is_filling(((("05", "5"), ("5",)), ("1", "0")), (5, 5, 10)), False)


class Shares(unittest.TestCase):
    def test_all_gone_through(self):
        for page in ALL:
            self.assertEqual(shares(page), brute.shares(page), page)

    def test_a_figure_that_can_not_stand_there_is_told_too(self):
        self.assertEqual(shares(((("01", "2"),), ("01", "2"))), [[[("0", 0), ("1", 1)], [("2", 1)]]] * 2)

    def test_without_any_filling(self):
        self.assertEqual(shares(((("12",),), ("3",))), [[[("1", 0), ("2", 0)]], [[("3", 0)]]])

    def test_kinds_of_values(self):
        for entry in shares(EDGES[6]):
            self.assertIs(type(entry), list)
            for spot in entry:
                self.assertIs(type(spot), list)
                for share in spot:
                    self.assertEqual([type(share), type(share[0]), type(share[1])], [tuple, str, int])


class Narrowed(unittest.TestCase):
    def test_all_gone_through(self):
        for page in ALL:
            if not brute.fillings(page):
                with self.assertRaises(NoFilling) as caught:
                    narrowed(page)
                self.assertIsInstance(caught.exception, AskedError)
                continue
            told = narrowed(page)
            self.assertEqual(told, brute.narrowed(page), page)
            self.assertIs(is_sum(told), True)
            self.assertEqual(brute.fillings(told), brute.fillings(page))
            self.assertEqual(narrowed(told), told)


class Manners(unittest.TestCase):
    def test_names_of_the_arguments(self):
        told = {"is_sum": "(thing)", "is_filling": "(page, thing)", "how_many": "(page)",
                "filling_at": "(page, number)", "number_of": "(page, thing)", "shares": "(page)",
                "narrowed": "(page)"}
        for name, arguments in told.items():
            self.assertEqual(str(inspect.signature(getattr(sums, name))), arguments)
        self.assertEqual(filling_at(number=0, page=ONES), (1, 1, 2))
        self.assertEqual(number_of(thing=(1, 1, 2), page=ONES), 0)

    def test_lists_are_the_askers_own(self):
        for page in EDGES:
            kept = copy.deepcopy(shares(page))
            told = shares(page)
            lists = [told, *told, *[spot for entry in told for spot in entry]]
            self.assertEqual(len({id(one) for one in lists}), len(lists))
            for one in lists:
                one.clear()
            self.assertEqual(shares(page), kept)

    def test_the_same_answer_each_time(self):
        for page in EDGES:
            first = how_many(page), filling_at(page, 0), shares(page), narrowed(page)
            self.assertRaises(NoNumber, filling_at, page, -1)
            self.assertRaises(NoFilling, number_of, page, None)
            self.assertEqual((how_many(page), filling_at(page, 0), shares(page), narrowed(page)), first)

    def test_nothing_handed_in_is_changed(self):
        page, thing = ONES, [1, [1], [[2]]]
        is_filling(page, thing)
        self.assertRaises(NoFilling, number_of, page, thing)
        is_sum(thing)
        self.assertEqual(thing, [1, [1], [[2]]])
        self.assertEqual(page, ((("1",), ("1",)), ("2",)))

    def test_what_was_told_may_be_handed_in_again(self):
        page = (((BLOT,) * 12,) * 8, (BLOT,) * 12)
        told = shares(page)
        self.assertIs(is_sum(told), False)
        self.assertIs(is_entry(told), False)
        self.assertIs(is_filling(page, told), False)
        with self.assertRaises(NoNumber) as caught:
            filling_at(page, how_many(page))
        self.assertEqual(caught.exception.among, caught.exception.number)

    def test_somewhat_beyond_the_limits(self):
        self.assertEqual(how_many(((("09",),) * 12, ("1", "0", "8"))), 1)
        self.assertEqual(filling_at(((("8", BLOT),) + (("9",),) * 9, ("1", BLOT, BLOT)), 0), (80, *[9] * 9, 161))
        self.assertEqual(how_many((((BLOT,) * 14,), (BLOT,) * 14)), 9 * 10 ** 13)


if __name__ == "__main__":
    unittest.main()

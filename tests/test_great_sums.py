"""Promises 2, 3, 6 and 7 of sums with far more fillings than can be gone through."""

import math
import time
import unittest

import brute
from brute import BLOT
from blotsum.errors import NoFilling, NoNumber
from blotsum.sums import filling_at, how_many, is_filling, is_sum, narrowed, number_of, shares

SOON = 5
ALL_BLOTS = (((BLOT,) * 12,) * 8, (BLOT,) * 12)
MIXED = (tuple((BLOT,) * spots for spots in (12, 1, 11, 2, 9, 5, 12, 7)), (BLOT,) * 12)
GREAT = [brute.great_page(seed) for seed in range(12)]
GREAT += [brute.great_page(seed, parts=4, most_spots=9) for seed in range(20, 26)]


class Great(unittest.TestCase):
    def setUp(self):
        self.began = time.monotonic()

    def tearDown(self):
        self.assertLess(time.monotonic() - self.began, SOON * 4)

    def soon(self, ask, *told):
        began = time.monotonic()
        answer = ask(*told)
        self.assertLess(time.monotonic() - began, SOON)
        return answer

    def test_all_blots_are_as_many_as_reckoned(self):
        # Eight numbers from 10**11 on below 10**12 together: what is above 10**11 is shared out.
        self.assertEqual(self.soon(how_many, ALL_BLOTS), math.comb(2 * 10 ** 11 - 1 + 8, 8))

    def test_all_blots_ends(self):
        low = 10 ** 11
        many = how_many(ALL_BLOTS)
        self.assertEqual(self.soon(filling_at, ALL_BLOTS, 0), (*[low] * 8, 8 * low))
        self.assertEqual(self.soon(filling_at, ALL_BLOTS, 1), (*[low] * 7, low + 1, 8 * low + 1))
        self.assertEqual(filling_at(ALL_BLOTS, 2 * low - 1), (*[low] * 7, 3 * low - 1, 10 * low - 1))
        self.assertEqual(filling_at(ALL_BLOTS, 2 * low), (*[low] * 6, low + 1, low, 8 * low + 1))
        self.assertEqual(filling_at(ALL_BLOTS, many - 1), (3 * low - 1, *[low] * 7, 10 * low - 1))

    def test_there_and_back(self):
        for page in [ALL_BLOTS, MIXED, *[page for page, filling in GREAT]]:
            many = how_many(page)
            told = []
            for number in sorted({0, 1 % many, many // 7, many // 3, many // 2, many - 1}):
                filling = self.soon(filling_at, page, number)
                self.assertIs(is_filling(page, filling), True)
                self.assertEqual(self.soon(number_of, page, filling), number)
                told.append(filling)
            self.assertEqual(told, sorted(set(told)))

    def test_back_and_there(self):
        for page, filling in GREAT:
            number = self.soon(number_of, page, filling)
            self.assertTrue(0 <= number < how_many(page))
            self.assertEqual(self.soon(filling_at, page, number), filling)

    def test_neighbours_have_none_between(self):
        # Two parts: the fillings of one first part lie side by side.
        page = (((BLOT,) * 11, (BLOT,) * 11), (BLOT,) * 12)
        first = 5 * 10 ** 10
        self.assertEqual(number_of(page, (first, 5 * 10 ** 10, 10 ** 11)) + 1,
                         number_of(page, (first, 5 * 10 ** 10 + 1, 10 ** 11 + 1)))
        self.assertEqual(number_of(page, (first, 10 ** 11 - 1, first + 10 ** 11 - 1)) + 1,
                         number_of(page, (first + 1, 5 * 10 ** 10 - 1, 10 ** 11)))

    def test_no_number_and_no_filling(self):
        for page, filling in [(ALL_BLOTS, filling_at(ALL_BLOTS, 5)), *GREAT[:3]]:
            many = how_many(page)
            for number in (-1, -many, many, many + 1):
                with self.assertRaises(NoNumber) as caught:
                    filling_at(page, number)
                self.assertEqual((caught.exception.number, caught.exception.among), (number, many))
            for thing in (list(filling), filling[:-1], (*filling[:-1], filling[-1] + 1), many, None):
                self.assertIs(is_filling(page, thing), False)
                self.assertRaises(NoFilling, number_of, page, thing)

    def test_shares_come_to_all_fillings(self):
        for page in [ALL_BLOTS, MIXED, *[page for page, filling in GREAT]]:
            many = how_many(page)
            parts, total = page
            told = self.soon(shares, page)
            self.assertEqual([len(entry) for entry in told], [len(entry) for entry in (*parts, total)])
            for entry, spots in zip((*parts, total), told):
                self.assertEqual(["".join(figure for figure, some in spot) for spot in spots], list(entry))
                for spot in spots:
                    self.assertEqual(sum(some for figure, some in spot), many)

    def test_a_share_is_how_many_with_that_figure_alone(self):
        page, filling = GREAT[0]
        parts, total = page
        entries = [*parts, total]
        told = shares(page)
        for at, spot in ((0, 0), (3, 2), (7, 1), (8, 0), (8, len(total) - 1)):
            for figure, some in told[at][spot]:
                alone = list(entries)
                alone[at] = (*entries[at][:spot], figure, *entries[at][spot + 1:])
                self.assertEqual(how_many((tuple(alone[:-1]), alone[-1])), some)

    def test_narrowed_ones_stay(self):
        for page in [ALL_BLOTS, MIXED, *[page for page, filling in GREAT]]:
            told = self.soon(narrowed, page)
            self.assertIs(is_sum(told), True)
            self.assertEqual(how_many(told), how_many(page))
            self.assertEqual(narrowed(told), told)
            figures = [[[figure for figure, some in spot if some] for spot in entry] for entry in shares(page)]
            self.assertEqual([[list(spot) for spot in entry] for entry in (*told[0], told[1])], figures)
            for number in (0, how_many(page) // 2):
                self.assertEqual(filling_at(told, number), filling_at(page, number))

    def test_narrowed_all_blots(self):
        parts, total = narrowed(ALL_BLOTS)
        self.assertEqual(parts, (("12", *[BLOT] * 11),) * 8)
        self.assertEqual(total, ("89", *[BLOT] * 11))

    def test_without_any_filling(self):
        even = ("2468", *["02468"] * 10)
        page = ((even,) * 8, (*[BLOT] * 11, "13579"))
        self.assertEqual(self.soon(how_many, page), 0)
        self.assertRaises(NoFilling, narrowed, page)
        for entry in shares(page):
            self.assertEqual({some for spot in entry for figure, some in spot}, {0})


if __name__ == "__main__":
    unittest.main()

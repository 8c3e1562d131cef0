"""Promises 2, 3 and 8 to 12 where there is far more than can be gone through."""

import itertools
import math
import random
import time
import unittest

import brute
from brute import BLOT
from blotsum.carries import carries, paper_of, shows_none
from blotsum.errors import NoFilling, NoNumber, NoPaper
from blotsum.pages import are_pages, pages_at, pages_many, pages_narrowed, pages_number
from blotsum.products import is_product, times_at, times_many, times_narrowed
from blotsum.slips import mended
from blotsum.sums import filling_at, how_many, is_filling, shares

SOON = 5
ALL_BLOTS = (((BLOT,) * 12,) * 8, (BLOT,) * 12)
EVEN = ((("2468", *["02468"] * 10),) * 8, (*[BLOT] * 11, "13579"))
FULL = ((("9", *[BLOT] * 11),) * 8, (BLOT,) * 12)
SIX = (BLOT,) * 6
SIXES = (((SIX,) * 3, SIX),) * 2
TWELVE = ((BLOT,) * 12, BLOT, (BLOT,) * 12)


def soon(case, ask, *told):
    began = time.monotonic()
    answer = ask(*told)
    case.assertLess(time.monotonic() - began, SOON)
    return answer


def with_spot(page, at, spot, figures):
    """The sum with other figures at a spot."""
    entries = [*page[0], page[1]]
    entries[at] = (*entries[at][:spot], figures, *entries[at][spot + 1:])
    return tuple(entries[:-1]), entries[-1]


def misread_at(page, spots):
    """The sum with just the figures at these spots that are none of the spot's; None where there are no such."""
    for at, spot in spots:
        entry = [*page[0], page[1]][at]
        figures = "".join(sorted(set(BLOT) - set(entry[spot])))
        if not figures:
            return None
        page = with_spot(page, at, spot, figures)
    return page


def mended_by(page, slips):
    """What is told of so many slips, by the fillings of sums with other figures at so many spots."""
    places = [(at, spot) for at, entry in enumerate((*page[0], page[1])) for spot in range(len(entry))]
    pages = [misread_at(page, spots) for spots in itertools.combinations(places, slips)]
    many = {other: how_many(other) for other in pages if other is not None}
    if not sum(many.values()):
        return None
    return slips, sum(many.values()), min(filling_at(other, 0) for other in many if many[other])


class Carries(unittest.TestCase):
    def test_all_blots(self):
        told = soon(self, carries, ALL_BLOTS)
        self.assertEqual(told[:-1], [[0], *[list(range(8))] * 11])
        self.assertEqual(told[-1], list(range(8)))
        self.assertRaises(NoPaper, paper_of, ALL_BLOTS)

    def test_papers(self):
        for page in (EVEN, FULL):
            self.assertEqual(how_many(page), 0)
            told = soon(self, paper_of, page)
            self.assertEqual(told, carries(page))
            self.assertIs(soon(self, shows_none, page, told), True)
            for at in range(1, len(told)):
                for number in told[at]:
                    less = [list(numbers) for numbers in told]
                    less[at].remove(number)
                    self.assertIs(shows_none(page, less), False)
        self.assertEqual(paper_of(EVEN), [[0], *[[]] * 12])
        self.assertEqual(paper_of(FULL), [[0], *[list(range(8))] * 11, [7]])

    def test_papers_with_more_than_need_be(self):
        chance = random.Random(51)
        pages = [brute.great_page(seed, parts=5)[0] for seed in range(4)]
        pages += [(EVEN[0][:3], EVEN[1]), (FULL[0][:5], FULL[1])]
        for seed in range(4, 10):
            # Parts of twelve spots that begin with great figures: too much for the total.
            parts = [("6789", *entry[-10:], BLOT) for entry in brute.great_page(seed, parts=5)[0][0]]
            pages.append((tuple(parts), (BLOT,) * 12))
        answers = []
        for page in pages:
            for first in ([0], [0, -7, 10 ** 39], [0, *[chance.randint(-10 ** 12, 10 ** 12) for _ in range(20)]]):
                paper = brute.closed(page, first)
                answers.append(soon(self, shows_none, page, paper))
                self.assertIs(answers[-1], 0 not in paper[-1])
                self.assertFalse(answers[-1] and how_many(page))
                chance.choice(paper[1:-1]).append(chance.randint(-10 ** 12, -1))
                self.assertIs(shows_none(page, paper), brute.shows_none(page, paper))
        self.assertGreater(min(answers.count(True), answers.count(False)), 10)

    def test_great_sums_with_a_filling(self):
        for seed in range(6):
            page, filling = brute.great_page(seed)
            told = soon(self, carries, page)
            self.assertIn(0, told[-1])
            self.assertRaises(NoPaper, paper_of, page)
            carry = 0
            for place in range(len(told)):
                self.assertIn(carry, told[place])
                carry = (carry + sum(number // 10 ** place % 10 for number in filling[:-1])) // 10
            self.assertIs(shows_none(page, told), False)


class Mended(unittest.TestCase):
    def test_with_a_filling(self):
        for page in (ALL_BLOTS, *[brute.great_page(seed)[0] for seed in range(6)]):
            self.assertEqual(soon(self, mended, page), (0, how_many(page), filling_at(page, 0)))

    def test_one_slip(self):
        chance = random.Random(55)
        pages = [EVEN]
        for at in (0, 5, 8):
            numbers = [chance.randint(10 ** 10, 10 ** 11 - 1) for _ in range(8)]
            texts = [str(number) for number in (*numbers, sum(numbers))]
            # A figure that is one less than it should be, ahead of the last one.
            spot = max(spot for spot in range(1, 10) if texts[at][spot] != "0")
            texts[at] = texts[at][:spot] + str(int(texts[at][spot]) - 1) + texts[at][spot + 1:]
            pages.append((tuple(map(tuple, texts[:-1])), tuple(texts[-1])))
        for page in pages:
            self.assertEqual(how_many(page), 0)
            self.assertEqual(soon(self, mended, page), mended_by(page, 1))

    def test_one_and_two_slips_of_smaller_ones(self):
        chance = random.Random(52)
        seen = {0: 0, 1: 0, 2: 0}
        for seed in range(40):
            page, filling = brute.great_page(seed, parts=2, most_spots=5)
            for _ in range(chance.randint(1, 8)):
                at = chance.randrange(3)
                spot = chance.randrange(len([*page[0], page[1]][at]))
                page = with_spot(page, at, spot, chance.choice(BLOT))
            told = mended(page)
            right = mended_by(page, 0) or mended_by(page, 1) or mended_by(page, 2)
            if right is None:
                self.assertTrue(told is None or told[0] > 2, page)
            else:
                self.assertEqual(told, right, page)
                seen[told[0]] += 1
        self.assertGreater(min(seen.values()), 3, seen)

    def test_the_first_has_so_many_slips(self):
        chance = random.Random(53)
        for _ in range(10):
            page = (tuple(tuple(chance.choice(BLOT) for _ in range(chance.randint(9, 11))) for _ in range(8)),
                    tuple(chance.choice(BLOT) for _ in range(12)))
            slips, many, first = soon(self, mended, page)
            self.assertEqual(sum(first[:-1]), first[-1])
            self.assertEqual([len(str(number)) for number in first], [len(entry) for entry in (*page[0], page[1])])
            wrong = [figure not in spot for entry, number in zip((*page[0], page[1]), first)
                     for spot, figure in zip(entry, str(number))]
            self.assertEqual(sum(wrong), slips)
            self.assertGreater(many, 0)

    def test_without_any(self):
        self.assertIsNone(soon(self, mended, (((BLOT,) * 12,) * 8, (BLOT,) * 11)))
        self.assertIsNone(soon(self, mended, (((BLOT,) * 10,) * 8, (BLOT,) * 12)))


class Pages(unittest.TestCase):
    def test_all_blots_are_as_many_as_reckoned(self):
        # Five numbers from 100000 on, together at most 999999: what is above 100000 is shared out.
        self.assertEqual(soon(self, pages_many, SIXES), math.comb(499999 + 5, 5))

    def test_all_blots_ends(self):
        low = 10 ** 5
        self.assertEqual(soon(self, pages_at, SIXES, 0), ((low, low, low, 3 * low), (3 * low, low, low, 5 * low)))
        self.assertEqual(pages_at(SIXES, 1), ((low, low, low, 3 * low), (3 * low, low, low + 1, 5 * low + 1)))
        self.assertEqual(pages_at(SIXES, pages_many(SIXES) - 1),
                         ((6 * low - 1, low, low, 8 * low - 1), (8 * low - 1, low, low, 10 * low - 1)))

    def test_there_and_back(self):
        for pages in [SIXES, *[brute.pages_around(seed, 6, 9) for seed in range(60, 75)]]:
            many = pages_many(pages)
            told = []
            for number in sorted({0, 1 % many, many // 7, many // 3, many - 1}):
                filling = soon(self, pages_at, pages, number)
                self.assertTrue(all(is_filling(page, row) for page, row in zip(pages, filling)))
                self.assertEqual(filling[0][-1], filling[1][0])
                self.assertEqual(soon(self, pages_number, pages, filling), number)
                told.append(filling)
            self.assertEqual(told, sorted(set(told)))
            for number in (-1, many, many + 1):
                with self.assertRaises(NoNumber) as caught:
                    pages_at(pages, number)
                self.assertEqual((caught.exception.number, caught.exception.among), (number, many))

    def test_neighbours(self):
        low = 10 ** 5
        ahead = ((low, low, low, 3 * low), (3 * low, low, 6 * low - 1, 10 * low - 1))
        behind = ((low, low, low, 3 * low), (3 * low, low + 1, low, 5 * low + 1))
        self.assertEqual(pages_number(SIXES, ahead) + 1, pages_number(SIXES, behind))
        ahead = ((low, low, low, 3 * low), (3 * low, 6 * low - 1, low, 10 * low - 1))
        behind = ((low, low, low + 1, 3 * low + 1), (3 * low + 1, low, low, 5 * low + 1))
        self.assertEqual(pages_number(SIXES, ahead) + 1, pages_number(SIXES, behind))

    def test_as_many_as_with_each_number_carried_forward(self):
        ahead = ((SIX, SIX), ("5", "05", "1", "38", "4", "02468"))
        behind = ((SIX, SIX, ("123",)), SIX)
        right = 0
        for number in brute.readings(ahead[1]):
            clear = tuple(str(number))
            right += how_many((ahead[0], clear)) * how_many(((clear, *behind[0][1:]), behind[1]))
        self.assertEqual(pages_many((ahead, behind)), right)

    def test_narrowed_ones_stay(self):
        for pages in [SIXES, *[brute.pages_around(seed, 6, 9) for seed in range(75, 90)]]:
            told = soon(self, pages_narrowed, pages)
            self.assertIs(are_pages(told), True)
            self.assertEqual(pages_many(told), pages_many(pages))
            self.assertEqual(pages_narrowed(told), told)
            self.assertEqual(told[0][1], told[1][0][0])
            for number in (0, pages_many(pages) // 2):
                self.assertEqual(pages_at(told, number), pages_at(pages, number))

    def test_narrowed_all_blots(self):
        ahead, behind = pages_narrowed(SIXES)
        self.assertEqual(ahead, ((("12345", *[BLOT] * 5),) * 3, ("34567", *[BLOT] * 5)))
        self.assertEqual(behind, ((ahead[1], *[("12345", *[BLOT] * 5)] * 2), ("56789", *[BLOT] * 5)))

    def test_without_any(self):
        even = ("2468", *["02468"] * 5)
        pages = (((even,) * 3, SIX), ((SIX, even, even), (*[BLOT] * 5, "13579")))
        self.assertEqual(soon(self, pages_many, pages), 0)
        self.assertRaises(NoFilling, pages_narrowed, pages)
        self.assertRaises(NoNumber, pages_at, pages, 0)


class ToldAgain(unittest.TestCase):
    def test_what_was_told_is_handed_in(self):
        told = [carries(ALL_BLOTS), paper_of(FULL), mended(ALL_BLOTS), pages_many(SIXES), pages_at(SIXES, 5),
                times_many(TWELVE), times_at(TWELVE, 5), times_narrowed(TWELVE), shares(ALL_BLOTS)]
        for thing in told:
            self.assertIs(are_pages(thing), False)
            self.assertIs(is_product(thing), thing == times_narrowed(TWELVE))
            if thing == pages_at(SIXES, 5):
                self.assertEqual(pages_number(SIXES, thing), 5)
            else:
                self.assertRaises(NoFilling, pages_number, SIXES, thing)
        for paper in told[:2]:
            self.assertIs(shows_none(ALL_BLOTS, paper), False)
        for pages in (pages_narrowed(SIXES), SIXES):
            with self.assertRaises(NoNumber) as caught:
                pages_at(pages, pages_many(pages))
            self.assertEqual(caught.exception.among, caught.exception.number)


def number_of_twelve(number, figure):
    """The number of a filling of twelve blots times a blot, reckoned by the least and the greatest numbers."""
    low = 10 ** 11
    ahead = sum(max(0, min(number, (10 ** 12 - 1) // times + 1) - low) for times in range(1, 10))
    return ahead + figure - 1


class Products(unittest.TestCase):
    def test_all_blots_are_as_many_as_reckoned(self):
        right = sum(max(0, (10 ** 12 - 1) // times - 10 ** 11 + 1) for times in range(1, 10))
        self.assertEqual(soon(self, times_many, TWELVE), right)
        # With the figure 0 the total must be a nought alone.
        self.assertEqual(times_many(((BLOT,) * 12, BLOT, (BLOT,))), 9 * 10 ** 11)

    def test_all_blots_by_their_numbers(self):
        many = times_many(TWELVE)
        chance = random.Random(54)
        told = []
        for number in sorted([0, 1, 8, 9, many - 1, *[chance.randrange(many) for _ in range(60)]]):
            filling = soon(self, times_at, TWELVE, number)
            self.assertEqual(filling[0] * filling[1], filling[2])
            self.assertEqual(number_of_twelve(*filling[:2]), number)
            told.append(filling)
        self.assertEqual(told, sorted(told))
        self.assertEqual(told[0], (10 ** 11, 1, 10 ** 11))
        self.assertEqual(told[-1], (10 ** 12 - 1, 1, 10 ** 12 - 1))
        for number in (-1, many, many + 1):
            self.assertRaises(NoNumber, times_at, TWELVE, number)

    def test_others(self):
        for seed in range(30):
            product, filling = brute.product_around(seed, 11)
            self.assertIs(is_product(product), True)
            many = soon(self, times_many, product)
            told = [soon(self, times_at, product, number) for number in sorted({0, many // 5, many // 2, many - 1})]
            self.assertEqual(told, sorted(set(told)))
            for one in [*told, filling]:
                texts = str(one[0]), str(one[1]), str(one[2])
                for text, entry in zip(texts, (product[0], (product[1],), product[2])):
                    self.assertEqual(len(text), len(entry))
                    self.assertTrue(all(figure in spot for figure, spot in zip(text, entry)))
                self.assertEqual(one[0] * one[1], one[2])
                self.assertTrue(told[0] <= one <= told[-1])

    def test_narrowed_ones_stay(self):
        for product in [TWELVE, *[brute.product_around(seed, 11)[0] for seed in range(30)]]:
            told = soon(self, times_narrowed, product)
            self.assertIs(is_product(told), True)
            self.assertEqual(times_many(told), times_many(product))
            self.assertEqual(times_narrowed(told), told)
            for number in (0, times_many(product) // 2):
                self.assertEqual(times_at(told, number), times_at(product, number))

    def test_narrowed_all_blots(self):
        self.assertEqual(times_narrowed(TWELVE), (("123456789", *[BLOT] * 11), "123456789", ("123456789", *[BLOT] * 11)))

    def test_without_any(self):
        product = ((BLOT,) * 12, "2468", (*[BLOT] * 11, "13579"))
        self.assertEqual(soon(self, times_many, product), 0)
        self.assertRaises(NoFilling, times_narrowed, product)
        self.assertRaises(NoNumber, times_at, product, 0)


if __name__ == "__main__":
    unittest.main()

"""Promises 6 to 12: what is said of two things that hang together agrees.

Parts in another order, a part of nought added, a clear nought put behind each entry, and a spot parted into its
figures or into two halves; of small things and of such with far more fillings than can be gone through.
"""

import random
import unittest

import brute
from brute import BLOT
from blotsum.carries import carries, paper_of, shows_none
from blotsum.errors import NoPaper
from blotsum.pages import pages_at, pages_many, pages_narrowed, pages_number
from blotsum.products import times_at, times_many, times_narrowed
from blotsum.slips import mended
from blotsum.sums import filling_at, how_many, narrowed, number_of, shares

NOUGHT = ("0",)
EVEN = ((("2468", *["02468"] * 10),) * 7, (*[BLOT] * 11, "13579"))
SUMS = brute.some_pages(61, 60, most_parts=4) + [brute.great_page(seed, parts=7)[0] for seed in range(6)]
SUMS += [EVEN, ((("6789", *[BLOT] * 11),) * 7, (BLOT,) * 12), (((BLOT,) * 12,) * 7, (BLOT,) * 12)]
PAGES = [brute.pages_around(seed, 3, 4) for seed in range(200, 230)]
PAGES += [brute.pages_around(seed, 6, 9) for seed in range(230, 245)]
PAGES += list(zip(brute.some_pages(62, 30, most_spots=2), brute.some_pages(63, 30, most_spots=2)))
PRODUCTS = [brute.product_around(seed, 1 + seed % 11)[0] for seed in range(300, 350)]


def entries_of(page):
    return [*page[0], page[1]]


def page_of(entries):
    return tuple(entries[:-1]), entries[-1]


def with_spot(entries, at, spot, figures):
    told = list(entries)
    told[at] = (*entries[at][:spot], figures, *entries[at][spot + 1:])
    return told


def partings(spot):
    """The spot parted into its figures, and into two halves where it has several."""
    half = len(spot) // 2
    return [list(spot)] + ([[spot[:half], spot[half:]]] if half else [])


def some_spots(entries, chance):
    """Some spots of the entries, as (entry, spot)."""
    places = [(at, spot) for at, entry in enumerate(entries) for spot in range(len(entry))]
    return chance.sample(places, min(4, len(places)))


def has_nought_alone(entries):
    """Whether an entry may be a nought: with one more figure behind it it may not."""
    return any(len(entry) == 1 and "0" in entry[0] for entry in entries)


def longer(entries):
    return [(*entry, "0") for entry in entries]


def papers_of(page):
    """Papers of which some show that there is no filling."""
    told = carries(page)
    near = [told, [numbers + [9] for numbers in told], [[0, *numbers] for numbers in told], [numbers[1:] for numbers in told]]
    return near + [[list(range(-1, 9)) for _ in told[:-1]] + [list(range(1, 9))]]


class OtherOrders(unittest.TestCase):
    def setUp(self):
        self.chance = random.Random(64)

    def shuffled(self, parts):
        return self.chance.sample(list(parts), len(parts))

    def test_sums(self):
        for parts, total in SUMS:
            order = self.shuffled(range(len(parts)))
            page, other = (parts, total), (tuple(parts[at] for at in order), total)
            self.assertEqual(how_many(other), how_many(page))
            self.assertEqual(shares(other), [shares(page)[at] for at in order] + [shares(page)[-1]])
            if how_many(page):
                filling = filling_at(page, how_many(page) // 2)
                number = number_of(other, (*[filling[at] for at in order], filling[-1]))
                self.assertEqual(filling_at(other, number), (*[filling[at] for at in order], filling[-1]))

    def test_carries_and_papers(self):
        for parts, total in SUMS:
            page, other = (parts, total), (tuple(self.shuffled(parts)), total)
            self.assertEqual(carries(other), carries(page))
            for paper in papers_of(page):
                self.assertIs(shows_none(other, paper), shows_none(page, paper))

    def test_mended(self):
        for parts, total in SUMS:
            order = self.shuffled(range(len(parts)))
            told, other = mended((parts, total)), mended((tuple(parts[at] for at in order), total))
            if told is None:
                self.assertIsNone(other)
                continue
            self.assertEqual(told[:2], other[:2])
            # Each of the first ones, put into the other order, is a mending there, and none ahead of the first.
            self.assertLessEqual(other[2], (*[told[2][at] for at in order], told[2][-1]))

    def test_pages(self):
        for ahead, behind in PAGES:
            pages = ahead, behind
            first, second = self.shuffled(range(len(ahead[0]))), [0, *self.shuffled(range(1, len(behind[0])))]
            others = ((tuple(ahead[0][at] for at in first), ahead[1]), (tuple(behind[0][at] for at in second), behind[1]))
            many = pages_many(pages)
            self.assertEqual(pages_many(others), many)
            if many:
                filling = pages_at(pages, many // 3)
                turned = ((*[filling[0][at] for at in first], filling[0][-1]),
                          (*[filling[1][at] for at in second], filling[1][-1]))
                self.assertEqual(pages_at(others, pages_number(others, turned)), turned)
                told = pages_narrowed(pages)
                self.assertEqual(pages_narrowed(others), ((tuple(told[0][0][at] for at in first), told[0][1]),
                                                          (tuple(told[1][0][at] for at in second), told[1][1])))


class NoughtAdded(unittest.TestCase):
    def test_sums(self):
        for parts, total in SUMS:
            page, other = (parts, total), ((*parts, NOUGHT), total)
            many = how_many(page)
            self.assertEqual(how_many(other), many)
            if many:
                filling = filling_at(page, many // 2)
                self.assertEqual(filling_at(other, many // 2), (*filling[:-1], 0, filling[-1]))
                self.assertEqual(narrowed(other), ((*narrowed(page)[0], NOUGHT), narrowed(page)[1]))

    def test_carries_and_papers(self):
        shown = 0
        for parts, total in SUMS:
            page, other = (parts, total), ((NOUGHT, *parts), total)
            self.assertEqual(carries(other), carries(page))
            for paper in papers_of(page):
                shown += shows_none(page, paper)
                self.assertIs(shows_none(other, paper), shows_none(page, paper))
            if how_many(page):
                self.assertRaises(NoPaper, paper_of, other)
            else:
                self.assertEqual(paper_of(other), paper_of(page))
        self.assertGreater(shown, 20)

    def test_mended(self):
        for parts, total in SUMS:
            told, other = mended((parts, total)), mended(((*parts, NOUGHT), total))
            if told is not None and told[0] == 0:
                self.assertEqual(other, (0, told[1], (*told[2][:-1], 0, told[2][-1])))
            elif told is not None:
                # The nought may be misread, too, so there may be fewer slips or more mendings.
                self.assertGreater(other[0], 0)
                self.assertLessEqual((other[0], -other[1]), (told[0], -told[1]))

    def test_pages(self):
        for ahead, behind in PAGES:
            pages, others = (ahead, behind), (ahead, ((*behind[0], NOUGHT), behind[1]))
            many = pages_many(pages)
            self.assertEqual(pages_many(others), many)
            self.assertEqual(pages_many((((NOUGHT, *ahead[0]), ahead[1]), behind)), many)
            if many:
                first, second = pages_at(pages, many // 2)
                self.assertEqual(pages_at(others, many // 2), (first, (*second[:-1], 0, second[-1])))


class NoughtBehind(unittest.TestCase):
    def test_carries_and_papers(self):
        for page in SUMS:
            if has_nought_alone(entries_of(page)) or brute.places_of(page) == 12:
                continue
            other = page_of(longer(entries_of(page)))
            self.assertEqual(carries(other), [[0], *carries(page)])
            self.assertEqual(how_many(other), how_many(page))
            for paper in papers_of(page):
                self.assertIs(shows_none(other, [[0], *paper]), shows_none(page, paper))

    def test_mended(self):
        for page in SUMS:
            told = mended(page)
            if has_nought_alone(entries_of(page)) or brute.places_of(page) == 12 or told is None:
                continue
            other = mended(page_of(longer(entries_of(page))))
            self.assertLessEqual(other[0], told[0])
            if told[0] < 2:
                # To misread the noughts so that they come right takes two slips.
                self.assertEqual(other, (told[0], told[1], tuple(10 * number for number in told[2])))

    def test_pages(self):
        for pages in PAGES:
            entries = [entries_of(page) for page in pages]
            if has_nought_alone(entries[0] + entries[1]):
                continue
            others = tuple(page_of(longer(row)) for row in entries)
            many = pages_many(pages)
            self.assertEqual(pages_many(others), many)
            if many:
                tens = tuple(tuple(10 * number for number in row) for row in pages_at(pages, many // 2))
                self.assertEqual(pages_at(others, many // 2), tens)
                self.assertEqual(pages_narrowed(others),
                                 tuple(page_of(longer(entries_of(page))) for page in pages_narrowed(pages)))

    def test_products(self):
        for entry, spot, total in PRODUCTS:
            if has_nought_alone([entry, total]):
                continue
            product, other = (entry, spot, total), ((*entry, "0"), spot, (*total, "0"))
            many = times_many(product)
            self.assertEqual(times_many(other), many)
            number, figure, come = times_at(product, many // 2)
            self.assertEqual(times_at(other, many // 2), (10 * number, figure, 10 * come))
            told = times_narrowed(product)
            self.assertEqual(times_narrowed(other), ((*told[0], "0"), told[1], (*told[2], "0")))


class SpotsParted(unittest.TestCase):
    def setUp(self):
        self.chance = random.Random(65)

    def partings_of(self, entries):
        """For some spots the lists of entries with the spot parted."""
        told = []
        for at, spot in some_spots(entries, self.chance):
            for parted in partings(entries[at][spot]):
                told.append([with_spot(entries, at, spot, figures) for figures in parted])
        return told

    def test_carries_and_papers(self):
        for page in SUMS:
            for parted in self.partings_of(entries_of(page)):
                others = [page_of(entries) for entries in parted]
                told = [carries(other) for other in others]
                self.assertEqual([sorted(set().union(*lists)) for lists in zip(*told)], carries(page))
                for paper in papers_of(page):
                    self.assertIs(all(shows_none(other, paper) for other in others), shows_none(page, paper))

    def test_mended(self):
        for page in SUMS:
            told = mended(page)
            for parted in self.partings_of(entries_of(page)):
                others = [mended(page_of(entries)) for entries in parted]
                if told is None:
                    self.assertEqual({*others}, {None})
                    continue
                fewest = [other for other in others if other[0] == told[0]]
                self.assertEqual(min(other[0] for other in others), told[0])
                self.assertEqual(min(other[2] for other in fewest), told[2])
                self.assertTrue(max(other[1] for other in fewest) <= told[1] <= sum(other[1] for other in fewest))

    def test_pages(self):
        for pages in PAGES:
            entries = [entry for page in pages for entry in entries_of(page)]
            size = len(entries_of(pages[0]))
            for parted in self.partings_of(entries):
                many = [pages_many((page_of(one[:size]), page_of(one[size:]))) for one in parted]
                self.assertEqual(sum(many), pages_many(pages))

    def test_pages_narrowed(self):
        for pages in [pages for pages in PAGES if pages_many(pages)]:
            told = [entry for page in pages_narrowed(pages) for entry in entries_of(page)]
            entries = [entry for page in pages for entry in entries_of(page)]
            size = len(entries_of(pages[0]))
            for at, spot in some_spots(entries, self.chance):
                for figure in entries[at][spot]:
                    one = with_spot(entries, at, spot, figure)
                    many = pages_many((page_of(one[:size]), page_of(one[size:])))
                    self.assertIs(figure in told[at][spot], many > 0)

    def test_products(self):
        for entry, spot, total in PRODUCTS:
            product = entry, spot, total
            told = times_narrowed(product)
            for parted in self.partings_of([entry, (spot,), total]):
                many = [times_many((one[0], one[1][0], one[2])) for one in parted]
                self.assertEqual(sum(many), times_many(product))
            for figure in spot:
                self.assertIs(figure in told[1], times_many((entry, figure, total)) > 0)

    def test_first_spot_settles_the_numbers(self):
        # The fillings whose first number begins with a lesser figure stand ahead of the others.
        for entry, spot, total in PRODUCTS:
            ahead = 0
            for figure in entry[0]:
                one = ((figure, *entry[1:]), spot, total)
                if times_many(one):
                    self.assertEqual(times_at((entry, spot, total), ahead), times_at(one, 0))
                    ahead += times_many(one)
        for pages in PAGES:
            ahead = 0
            (first, *parts), total = pages[0]
            for figure in first[0]:
                one = ((((figure, *first[1:]), *parts), total), pages[1])
                if pages_many(one):
                    self.assertEqual(pages_at(pages, ahead), pages_at(one, 0))
                    ahead += pages_many(one)


if __name__ == "__main__":
    unittest.main()

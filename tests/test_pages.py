"""Promise 11, and 2 and 3 as far as they speak of pages; small pages, all fillings gone through."""

import inspect
import unittest

import brute
from brute import BLOT, THINGS
from blotsum import pages as module
from blotsum.errors import AskedError, BlotError, NoFilling, NoNumber, ToldError
from blotsum.pages import are_pages, pages_at, pages_many, pages_narrowed, pages_number
from blotsum.sums import filling_at, how_many, is_filling, is_sum, narrowed, number_of

ONE = ("1",)
ONES = ((ONE, ONE), ("2",))
TWICE = (ONES, ((("2",), ONE), ("3",)))
BLOTS = (((BLOT,), (BLOT,)), (BLOT, BLOT))
EDGES = [
    (ONES,),
    TWICE,
    (((("0",),), ("0",)), ((("0",),), ("0",))),
    ((((BLOT,),), (BLOT,)), (((BLOT,),), (BLOT,))),
    ((((BLOT,),), (BLOT,)), (((BLOT,), (BLOT,)), (BLOT,))),
    (BLOTS, (((BLOT, BLOT), (BLOT,)), (BLOT, BLOT))),
    (BLOTS, ((("1", BLOT),), (BLOT, "02468"))),
    ((((BLOT,), ("5",)), ("1", "0123")), ((("12", "2345"), ("8",)), (BLOT, "01"))),
    (((("9", "9"), ("1",)), ("1", "0", "0")), ((("1", "0", "0"), ("9", "0", "0")), ("1", "0", "0", "0"))),
    ((((BLOT,),), ("05",)), ((("03",), (BLOT,)), (BLOT,))),
]
WITHOUT = [
    (BLOTS, (((BLOT, BLOT), (BLOT,)), (BLOT, BLOT, BLOT))),
    (((ONE,), ("2",)),),
    (((ONE,), ONE), ((ONE,), ("2",))),
    (((ONE,), ("2",)), ((("2",),), ("2",))),
    # What is brought forward is not what was carried forward.
    (ONES, ((("3",), ONE), ("4",))),
    (BLOTS, (((BLOT,), (BLOT,)), (BLOT, BLOT))),
    (BLOTS, (((BLOT,) * 3, (BLOT,)), (BLOT,) * 3)),
    (BLOTS, ((("2", BLOT),), ("2", BLOT))),
    (((("12",),), ("12",)), ((("34",),), ("34",))),
    ((((BLOT,),), (BLOT,)), ((("0", BLOT),), (BLOT,))),
]
SOME = [brute.pages_around(seed) for seed in range(80)]
SOME += [brute.pages_around(seed, most_figures=2) for seed in range(80, 130)]
SOME += [brute.pages_around(seed, most_spots=2, most_figures=9) for seed in range(130, 190)]
SOME += list(zip(brute.some_pages(31, 80, most_spots=2), brute.some_pages(32, 80, most_spots=2)))
SOME += [(page,) for page in brute.some_pages(33, 40)]
ALL = EDGES + WITHOUT + SOME


def is_right(thing, right):
    """Whether a thing is one of the fillings, truths being no numbers."""
    if not isinstance(thing, tuple) or not all(isinstance(row, tuple) for row in thing):
        return False
    return all(type(number) is int for row in thing for number in row) and thing in right


def numbers_among(many):
    if many <= 40:
        return list(range(many))
    return [*range(8), *range(8, many, many // 15), many - 1]


class Kinds(unittest.TestCase):
    def test_pages(self):
        for pages in [*EDGES, *WITHOUT, *SOME, ((((BLOT,) * 6,) * 3, (BLOT,) * 6),) * 2]:
            self.assertIs(are_pages(pages), True, pages)

    def test_one_page_and_two(self):
        for many, right in ((0, False), (1, True), (2, True), (3, False), (4, False)):
            self.assertIs(are_pages((ONES,) * many), right, many)

    def test_three_parts_and_four(self):
        for parts, right in ((0, False), (1, True), (2, True), (3, True), (4, False), (8, False), (9, False)):
            page = ((ONE,) * parts, ONE)
            for pages in ((page,), (page, ONES), (ONES, page)):
                self.assertIs(are_pages(pages), right, parts)

    def test_six_spots_and_seven(self):
        for spots, right in ((0, False), (1, True), (6, True), (7, False), (12, False), (13, False)):
            long = ("1",) * spots
            for page in (((long,), ONE), ((ONE,), long), ((ONE, ONE, long), ONE)):
                for pages in ((page,), (page, ONES), (ONES, page)):
                    self.assertIs(are_pages(pages), right, spots)

    def test_no_pages(self):
        for thing in ([ONES], [ONES, ONES], ONES, (ONES, None), (None, ONES), (ONES, ()), ((ONES,),), (ONES, [*ONES]),
                      (([ONE], ONE),), (((["1"],), ONE),), (((ONE,), ["1"]),), (((("10",),), ONE),), (ONES, ONE), ()):
            self.assertIs(are_pages(thing), False, thing)

    def test_pages_of_anything(self):
        for thing in THINGS:
            self.assertIs(are_pages(thing), False, thing)
            small = is_sum(thing) and len(thing[0]) <= 3
            self.assertIs(are_pages((thing,)), small, thing)
            self.assertIs(are_pages((ONES, thing)), small, thing)
            self.assertIs(are_pages((thing, ONES)), small, thing)


class Fillings(unittest.TestCase):
    def test_numbered_there_and_back(self):
        for pages in ALL:
            right = brute.pages_fillings(pages)
            self.assertEqual(pages_many(pages), len(right), pages)
            for number in numbers_among(len(right)):
                self.assertEqual(pages_at(pages, number), right[number], pages)
                self.assertEqual(pages_number(pages, right[number]), number, pages)

    def test_there_are_small_and_greater_ones(self):
        many = [len(brute.pages_fillings(pages)) for pages in ALL if len(pages) == 2]
        self.assertGreater(sum(one == 0 for one in many), 20)
        self.assertGreater(sum(0 < one < 10 for one in many), 20)
        self.assertGreater(sum(one >= 10 for one in many), 30)

    def test_what_is_carried_forward_is_one_number(self):
        for pages in ALL:
            for number in numbers_among(pages_many(pages)):
                told = pages_at(pages, number)
                self.assertTrue(all(is_filling(page, filling) for page, filling in zip(pages, told)))
                self.assertTrue(len(told) == 1 or told[0][-1] == told[1][0])

    def test_brought_forward_spots_that_do_not_agree(self):
        pages = ((((BLOT,),), ("0257",)), ((("2378",), ("1",)), (BLOT,)))
        self.assertEqual(pages_many(pages), 2)
        self.assertEqual([pages_at(pages, number) for number in (0, 1)], [((2, 2), (2, 1, 3)), ((7, 7), (7, 1, 8))])
        self.assertRaises(NoFilling, pages_number, pages, ((5, 5), (2, 1, 3)))
        self.assertRaises(NoFilling, pages_number, pages, ((0, 0), (8, 1, 9)))
        self.assertEqual(pages_narrowed(pages), (((("27",),), ("27",)), ((("27",), ("1",)), ("38",))))

    def test_one_page_is_as_its_sum(self):
        for page in brute.some_pages(34, 60):
            many = how_many(page)
            self.assertEqual(pages_many((page,)), many)
            for number in numbers_among(many):
                self.assertEqual(pages_at((page,), number), (filling_at(page, number),))
                self.assertEqual(pages_number((page,), (filling_at(page, number),)), number)
            if many:
                self.assertEqual(pages_narrowed((page,)), (narrowed(page),))
        self.assertEqual(number_of(ONES, (1, 1, 2)), pages_number((ONES,), ((1, 1, 2),)))

    def test_without_any(self):
        for pages in WITHOUT:
            self.assertEqual(pages_many(pages), 0, pages)
            self.assertRaises(NoNumber, pages_at, pages, 0)
            self.assertRaises(NoFilling, pages_narrowed, pages)

    def test_no_number(self):
        for pages in ALL[:50]:
            many = pages_many(pages)
            for number in (-(10 ** 40 - 1), -many - 1, -1, many, many + 1, 10 ** 40 - 1, 10 ** 5000):
                with self.assertRaises(NoNumber) as caught:
                    pages_at(pages, number)
                self.assertEqual((caught.exception.number, caught.exception.among), (number, many))
                self.assertNotIsInstance(caught.exception, BlotError)

    def test_a_truth_is_no_number(self):
        for truth in (True, False):
            with self.assertRaises(NoNumber) as caught:
                pages_at(EDGES[3], truth)
            self.assertIs(caught.exception.number, truth)

    def test_no_fillings_of_anything(self):
        for pages in (*EDGES, *WITHOUT):
            right = brute.pages_fillings(pages)
            near = [*THINGS, *[(thing,) for thing in THINGS], *[(thing, thing) for thing in THINGS]]
            for filling in right[:2]:
                near += [list(filling), [*map(list, filling)], tuple(map(list, filling)), filling[0], filling[:-1],
                         filling + filling, filling[::-1]]
                for at, row in enumerate(filling):
                    near += [(*filling[:at], row[:-1], *filling[at + 1:]), (*filling[:at], None, *filling[at + 1:])]
                    for k in range(len(row)):
                        for more in (-1, 1, 10 ** 39):
                            other = (*row[:k], row[k] + more, *row[k + 1:])
                            near.append((*filling[:at], other, *filling[at + 1:]))
            for thing in [thing for thing in near if not is_right(thing, right)]:
                with self.assertRaises(NoFilling, msg=(pages, thing)) as caught:
                    pages_number(pages, thing)
                self.assertIs(type(caught.exception), NoFilling)
                self.assertIsInstance(caught.exception, AskedError)
                self.assertNotIsInstance(caught.exception, ToldError)

    def test_truths_and_lists_are_no_fillings(self):
        self.assertEqual(pages_number(TWICE, ((1, 1, 2), (2, 1, 3))), 0)
        for thing in (((True, 1, 2), (2, 1, 3)), ((1, 1, 2), (2, True, 3)), [(1, 1, 2), (2, 1, 3)],
                      ([1, 1, 2], (2, 1, 3)), ((1, 1, 2), [2, 1, 3]), ((1, 1, 2),), (1, 1, 2, 1, 3)):
            self.assertRaises(NoFilling, pages_number, TWICE, thing)
        nought = EDGES[2]
        self.assertRaises(NoFilling, pages_number, nought, ((0, 0), (False, 0)))
        self.assertRaises(NoFilling, pages_number, nought, ((0, False), (0, 0)))

    def test_fillings_of_both_with_unlike_numbers_carried(self):
        pages = (BLOTS, (((BLOT, BLOT), (BLOT,)), (BLOT, BLOT)))
        self.assertRaises(NoFilling, pages_number, pages, ((5, 5, 10), (11, 0, 11)))
        pages_number(pages, ((5, 5, 10), (10, 0, 10)))


class Narrowed(unittest.TestCase):
    def test_all_gone_through(self):
        for pages in ALL:
            if not brute.pages_fillings(pages):
                with self.assertRaises(NoFilling) as caught:
                    pages_narrowed(pages)
                self.assertIs(type(caught.exception), NoFilling)
                continue
            told = pages_narrowed(pages)
            self.assertEqual(told, brute.pages_narrowed(pages), pages)
            self.assertIs(are_pages(told), True)
            self.assertEqual(brute.pages_fillings(told), brute.pages_fillings(pages))
            self.assertEqual(pages_narrowed(told), told)

    def test_one_page_narrows_the_other(self):
        ahead = ((("12",), ("34",)), ("456",))
        self.assertEqual(narrowed(ahead), ahead)
        self.assertEqual(pages_narrowed((ahead, ((("068",), ONE), (BLOT,)))),
                         (((("2",), ("4",)), ("6",)), ((("6",), ONE), ("7",))))
        self.assertEqual(pages_narrowed((ahead, (((BLOT,), ONE), ("058",)))),
                         (((("1",), ("3",)), ("4",)), ((("4",), ONE), ("5",))))


class Manners(unittest.TestCase):
    def test_names_of_the_arguments(self):
        told = {"are_pages": "(thing)", "pages_many": "(pages)", "pages_at": "(pages, number)",
                "pages_number": "(pages, thing)", "pages_narrowed": "(pages)"}
        for name, arguments in told.items():
            self.assertEqual(str(inspect.signature(getattr(module, name))), arguments)
        self.assertEqual(pages_at(number=0, pages=TWICE), ((1, 1, 2), (2, 1, 3)))
        self.assertEqual(pages_number(thing=((1, 1, 2), (2, 1, 3)), pages=TWICE), 0)

    def test_kinds_of_values(self):
        told = pages_at(TWICE, 0)
        self.assertEqual({type(told), *map(type, told)}, {tuple})
        self.assertEqual({type(number) for row in told for number in row}, {int})
        told = pages_narrowed(TWICE)
        self.assertEqual(told, TWICE)
        self.assertEqual({type(told), *[type(page) for page in told], *[type(page[0]) for page in told]}, {tuple})

    def test_the_same_answer_each_time(self):
        for pages in EDGES:
            first = pages_many(pages), pages_at(pages, 0), pages_narrowed(pages)
            self.assertRaises(NoNumber, pages_at, pages, -1)
            self.assertRaises(NoFilling, pages_number, pages, None)
            self.assertEqual((pages_many(pages), pages_at(pages, 0), pages_narrowed(pages)), first)

    def test_nothing_handed_in_is_changed(self):
        thing = [[1, 1, 2], [2, [1], 3]]
        self.assertRaises(NoFilling, pages_number, TWICE, thing)
        are_pages(thing)
        self.assertEqual(thing, [[1, 1, 2], [2, [1], 3]])

    def test_somewhat_beyond_the_limits(self):
        page = ((("09",),) * 4, ("3", "6"))
        pages = (page, ((("3", "6"), *page[0]), ("7", "2")))
        self.assertEqual(pages_at(pages, 0), ((9, 9, 9, 9, 36), (36, 9, 9, 9, 9, 72)))
        long = ("1", *[BLOT] * 7)
        self.assertEqual(pages_many((((long,), long), ((long,), long))), 10 ** 7)


if __name__ == "__main__":
    unittest.main()

"""Promises 8 and 9, and 2 and 3 as far as they speak of carries and papers; small sums, all gone through."""

import copy
import inspect
import itertools
import random
import unittest

import brute
from brute import BLOT
from blotsum import carries as module
from blotsum.carries import carries, paper_of, shows_none
from blotsum.errors import AskedError, NoPaper, ToldError
from blotsum.sums import how_many

ODD = ((("2468",), ("02468",)), ("13579",))
WITHOUT = [
    ODD,
    ((("1",),), ("2",)),
    ((("1",), ("1",)), ("0", "2")),
    ((("0", "1"),), ("1",)),
    ((("0", "1"),), ("0", "1")),
    (((BLOT, BLOT),), (BLOT,)),
    ((("1", "0", "0"), ("5",)), (BLOT, BLOT)),
    ((("9", "9"),) * 8, (BLOT, BLOT)),
    ((("1",),), (BLOT, BLOT)),
    ((("2", "2", BLOT), ("2", "2", BLOT)), ("5", "4", BLOT)),
    ((("5", "5"), ("5", "5")), ("1", "2", "0")),
]
WITH = [
    ((("1",), ("1",)), ("2",)),
    ((("0",),), ("0",)),
    (((BLOT,), (BLOT,)), (BLOT, BLOT)),
    (((BLOT, BLOT), (BLOT,)), (BLOT, BLOT, BLOT)),
    ((("9",), ("9", "9")), ("1", "0", "8")),
    ((("9", "9"),) * 8, ("7", "9", "2")),
    ((("09",),) * 8, (BLOT, BLOT)),
]
SOME = brute.some_pages(11, 120) + brute.some_pages(12, 40, most_parts=5, most_spots=2)
SOME += brute.some_pages(13, 30, most_parts=8, most_spots=1, most_figures=4)
SOME += [brute.great_page(seed, parts=2, most_spots=3)[0] for seed in range(100, 120)]
ALL = WITH + WITHOUT + SOME
FEW = [page for page in ALL if not brute.fillings(page)]
MORE = [page for page in ALL if brute.fillings(page)]


class Carries(unittest.TestCase):
    def test_all_gone_through(self):
        for page in ALL:
            self.assertEqual(carries(page), brute.carries(page), page)

    def test_known_ones(self):
        self.assertEqual(carries(((("1",),), ("1",))), [[0], [0]])
        self.assertEqual(carries(((("9",), ("9", "9")), ("1", "0", "8"))), [[0], [1], [1], [0]])
        self.assertEqual(carries((((BLOT,), (BLOT,)), (BLOT, BLOT))), [[0], [0, 1], [0]])
        self.assertEqual(carries((((BLOT,), (BLOT,)), (BLOT,))), [[0], [0, 1]])
        self.assertEqual(carries((((BLOT,),) * 8, (BLOT,))), [[0], [0, 1, 2, 3, 4, 5, 6, 7]])

    def test_no_carry_comes_where_no_figures_fit(self):
        self.assertEqual(carries(((("1",),), ("2",))), [[0], []])
        self.assertEqual(carries(((("1", "1"),), ("2", "2"))), [[0], [], []])
        self.assertEqual(carries(((("1", "1"),), ("2", "1"))), [[0], [0], []])

    def test_the_first_of_several_spots_has_no_nought(self):
        self.assertEqual(carries(((("01", "5"), ("5",)), ("012", "0"))), [[0], [1], [0]])
        self.assertEqual(carries(((("0", "5"), ("5",)), ("1", "0"))), [[0], [1], []])
        self.assertEqual(carries(((("1", "5"),), ("0", "5"))), [[0], [0], []])
        self.assertEqual(carries(((("0",),), ("0",))), [[0], [0]])

    def test_as_many_as_the_longest_entry_has_places(self):
        for part, total in ((("1",) * 3, ("1",)), (("1",), ("1",) * 3), (("1",) * 3, ("1",) * 3)):
            self.assertEqual(len(carries(((("1",), part), total))), 4)

    def test_a_filling_is_where_nothing_is_carried_out_at_last(self):
        for page in ALL:
            self.assertEqual(0 in carries(page)[-1], how_many(page) > 0)


def papers_near(page, chance):
    """Papers that show that there is no filling, and such that are near to it."""
    told = [brute.carries(page), brute.closed(page, [0, 1]), brute.closed(page, [5, 0, 0, -1]),
            brute.closed(page, [0, -3, -44, 10 ** 39, -(10 ** 39)])]
    for paper in list(told):
        more = copy.deepcopy(paper)
        for numbers in more:
            numbers.extend([chance.randint(-20, 20) for _ in range(chance.randint(0, 3))])
            chance.shuffle(numbers)
        told.append(more)
        less = copy.deepcopy(paper)
        row = chance.choice(less)
        if row:
            row.remove(chance.choice(row))
        told.append(less)
    return told


class Papers(unittest.TestCase):
    def test_as_the_document_says(self):
        chance = random.Random(5)
        shown = 0
        for page in ALL:
            for paper in papers_near(page, chance):
                right = brute.shows_none(page, paper)
                self.assertIs(shows_none(page, paper), right, (page, paper))
                shown += right
        self.assertGreater(shown, 150)

    def test_a_told_paper_shows_it(self):
        self.assertGreater(len(FEW), 50)
        for page in FEW:
            told = paper_of(page)
            self.assertEqual(told, brute.carries(page))
            self.assertIs(shows_none(page, told), True, page)

    def test_no_paper_where_there_is_a_filling(self):
        self.assertGreater(len(MORE), 50)
        for page in MORE:
            with self.assertRaises(NoPaper) as caught:
                paper_of(page)
            self.assertIs(type(caught.exception), NoPaper)
            self.assertIsInstance(caught.exception, AskedError)
            self.assertNotIsInstance(caught.exception, ToldError)

    def test_no_lists_show_it_where_there_is_a_filling(self):
        chance = random.Random(6)
        for page in MORE:
            told = carries(page)
            papers = [told, told[:-1] + [[]], [[0], *[[] for _ in told[1:]]], [list(range(-9, 10)) for _ in told]]
            papers += [told[:-1] + [[carry for carry in told[-1] if carry]]]
            papers += papers_near(page, chance)
            for _ in range(10):
                papers.append([chance.sample(range(-2, 9), chance.randint(0, 8)) for _ in told])
            for paper in papers:
                self.assertIs(shows_none(page, paper), False, (page, paper))

    def test_all_small_papers_of_a_place(self):
        lists = [list(numbers) for many in range(4) for numbers in itertools.product((-1, 0, 1), repeat=many)]
        for page in (ODD, ((("1",),), ("2",)), ((("9",), ("29",)), ("19",)), ((("1",),), ("1",))):
            for first, second in itertools.product(lists, lists):
                paper = [first, second]
                self.assertIs(shows_none(page, paper), brute.shows_none(page, paper), (page, paper))

    def test_too_few_and_too_many_lists(self):
        for page in FEW[:40]:
            told = paper_of(page)
            self.assertIs(shows_none(page, []), False)
            self.assertIs(shows_none(page, told[:-1]), False)
            self.assertIs(shows_none(page, told[1:]), False)
            self.assertIs(shows_none(page, told + [[]]), False)
            self.assertIs(shows_none(page, told + [[5]]), False)
            self.assertIs(shows_none(page, [[0]] + told), False)

    def test_any_order_and_numbers_told_twice(self):
        page = (((BLOT, "9"), ("9", BLOT), (BLOT,)), ("5", BLOT))
        told = paper_of(page)
        self.assertGreater(len(told[1]), 1)
        self.assertIs(shows_none(page, [numbers[::-1] for numbers in told]), True)
        self.assertIs(shows_none(page, [numbers * 3 for numbers in told]), True)
        self.assertIs(shows_none(page, [numbers[::-1] + numbers for numbers in told]), True)

    def test_more_carries_than_need_be(self):
        page = ((("2", "2"), ("2", "2")), ("5", "4"))
        self.assertEqual(paper_of(page), [[0], [0], []])
        self.assertIs(shows_none(page, [[0], [0], [7]]), True)
        self.assertIs(shows_none(page, [[0], [0, 2], []]), True)
        self.assertIs(shows_none(page, [[0], [0, 1], []]), False)
        self.assertIs(shows_none(page, [[0], [0, 11], []]), False)
        self.assertIs(shows_none(page, [[0], [0, 11], [1]]), True)
        self.assertIs(shows_none(page, [[0], [0, 1], [0]]), False)
        self.assertIs(shows_none(page, [[0, 5], [0], []]), True)
        self.assertIs(shows_none(page, [[0, 10], [0], []]), False)
        self.assertIs(shows_none(page, [[0, 10], [0, 1], []]), False)

    def test_numbers_below_nought(self):
        page = ((("2", "2"), ("2", "2")), ("5", "4"))
        # 4 and -10 come to 4 and ten times -1; 4 and -9 to 5 and ten times -1.
        self.assertIs(shows_none(page, [[0, -10], [0], []]), False)
        self.assertIs(shows_none(page, [[0, -10], [0, -1], []]), True)
        self.assertIs(shows_none(page, [[0], [0, -9], []]), False)
        self.assertIs(shows_none(page, [[0], [0, -9], [-1]]), True)
        self.assertIs(shows_none(page, [[0], [0, -1, -3, -4], []]), True)
        self.assertIs(shows_none(page, [[0, -10 ** 39], [0], []]), False)
        self.assertIs(shows_none(page, [[0, -10 ** 39], [-10 ** 38, 0], []]), True)
        self.assertIs(shows_none(page, [[0, 10 ** 39], [0, 10 ** 38, -5], []]), True)

    def test_a_first_list_without_nought(self):
        for page in FEW[:40]:
            told = paper_of(page)
            for first in ([], [1], [-1], [1, 2]):
                self.assertIs(shows_none(page, [first, *told[1:]]), False)
        self.assertIs(shows_none(((("1",),), ("2",)), [[], []]), False)

    def test_a_last_list_with_nought(self):
        for page in FEW[:40]:
            told = paper_of(page)
            self.assertIs(shows_none(page, [*told[:-1], told[-1] + [0]]), False)
            self.assertIs(shows_none(page, [*told[:-1], told[-1] + [10, -10]]), True)

    def test_what_is_no_paper(self):
        page = ((("1",),), ("2",))
        self.assertIs(shows_none(page, [[0], []]), True)
        for thing in (([0], []), [(0,), []], [[0], ()], [[0], [True]], [[0, True], []], [[False], []], None, [0, 1],
                      [[0], None], [["0"], []], [[0], ["1"]], "", [[0], ""], [[0], [[]]], True, 0):
            self.assertIs(shows_none(page, thing), False, thing)


class Manners(unittest.TestCase):
    def test_names_of_the_arguments(self):
        told = {"carries": "(page)", "shows_none": "(page, paper)", "paper_of": "(page)"}
        for name, arguments in told.items():
            self.assertEqual(str(inspect.signature(getattr(module, name))), arguments)
        self.assertIs(shows_none(paper=paper_of(page=ODD), page=ODD), True)
        self.assertEqual(carries(page=ODD), paper_of(ODD))

    def test_kinds_of_values(self):
        for told in (carries(WITH[3]), paper_of(WITHOUT[5])):
            self.assertIs(type(told), list)
            for numbers in told:
                self.assertIs(type(numbers), list)
                self.assertEqual({type(number) for number in numbers} | {int}, {int})

    def test_lists_are_the_askers_own(self):
        for page in WITHOUT:
            for ask in (carries, paper_of):
                kept = copy.deepcopy(ask(page))
                told = ask(page)
                self.assertEqual(len({id(numbers) for numbers in told}), len(told))
                for numbers in told:
                    numbers.append(77)
                told.clear()
                self.assertEqual(ask(page), kept)

    def test_nothing_handed_in_is_changed(self):
        for page in ALL[:30]:
            paper = [numbers[::-1] + [3, 3, -1] for numbers in brute.carries(page)]
            kept = copy.deepcopy(paper)
            answer = shows_none(page, paper)
            self.assertEqual(paper, kept)
            self.assertRaises(NoPaper, paper_of, WITH[0])
            self.assertIs(shows_none(page, paper), answer)


if __name__ == "__main__":
    unittest.main()

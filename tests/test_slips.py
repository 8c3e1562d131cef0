"""Promise 10, and 2 and 3 as far as they speak of misread figures; small sums, all numbers gone through."""

import inspect
import random
import unittest

import brute
from brute import BLOT
from blotsum.slips import mended
from blotsum.sums import filling_at, how_many

WITHOUT_ANY = [
    ((("1",),), ("1", "0")),
    ((("1", "0"),), ("1",)),
    ((("9",), ("9",)), ("1", "0", "0")),
    ((("0", "0"), ("0", "0")), ("0",)),
    ((("1", "0", "0"), ("0",)), ("0", "9")),
    (((BLOT,) * 3,), (BLOT,) * 2),
]
SOME = brute.some_pages(21, 60, most_parts=2, most_spots=2, most_figures=4)
SOME += brute.some_pages(22, 40, most_parts=4, most_spots=1, most_figures=4)
SOME += brute.some_pages(23, 30, most_parts=3, most_spots=2, most_figures=2)
SOME += brute.some_pages(24, 12, most_parts=1, most_spots=4, most_figures=3)


def clear(*numbers):
    entries = [tuple(str(number)) for number in numbers]
    return tuple(entries[:-1]), entries[-1]


def clear_pages(seed, many):
    chance = random.Random(seed)
    told = []
    for spots in ((1, 1, 1), (2, 1, 2), (2, 2, 2), (1, 1, 2), (2, 2, 3), (3, 1, 3)):
        for _ in range(many):
            told.append(clear(*[chance.randint(10 ** (one - 1), 10 ** one - 1) for one in spots]))
    return told


ALL = WITHOUT_ANY + SOME + clear_pages(25, 5)


class Mended(unittest.TestCase):
    def test_all_gone_through(self):
        for page in ALL:
            self.assertEqual(mended(page), brute.mended(page), page)

    def test_there_are_many_kinds(self):
        told = [brute.mended(page) for page in ALL]
        self.assertGreater(told.count(None), 10)
        for slips in range(4):
            self.assertGreater(len([one for one in told if one and one[0] == slips]), 3, slips)
        self.assertGreater(len([one for one in told if one and one[0] > 0 and one[1] > 1]), 10)

    def test_known_ones(self):
        self.assertEqual(mended(clear(1, 1, 2)), (0, 1, (1, 1, 2)))
        self.assertEqual(mended(clear(1, 1, 3)), (1, 3, (1, 1, 2)))
        self.assertEqual(mended(clear(12, 30, 52)), (1, 3, (12, 30, 42)))
        self.assertEqual(mended(clear(3, 4)), (1, 2, (3, 3)))
        self.assertEqual(mended(clear(19, 11)), (1, 2, (11, 11)))
        self.assertEqual(mended(clear(29, 11)), (2, 4, (11, 11)))
        self.assertEqual(mended(((("1",), ("1",)), ("35",))), (1, 5, (1, 1, 2)))

    def test_without_any(self):
        for page in WITHOUT_ANY:
            self.assertIsNone(mended(page), page)

    def test_with_a_filling_there_are_no_slips(self):
        for page in brute.some_pages(26, 150) + [brute.great_page(seed, parts=3)[0] for seed in range(10)]:
            told = mended(page)
            if how_many(page):
                self.assertEqual(told, (0, how_many(page), filling_at(page, 0)), page)
            else:
                self.assertTrue(told is None or told[0] > 0, page)

    def test_a_nought_ahead_of_several_is_misread(self):
        self.assertEqual(mended(((("0", "5"), ("5",)), ("2", "0"))), (1, 1, (15, 5, 20)))
        self.assertEqual(mended(((("0", "0"),), ("0", "0"))), (2, 9, (10, 10)))
        self.assertEqual(mended(((("0",),), ("0",))), (0, 1, (0, 0)))
        self.assertEqual(mended(((("05", "1"),), ("01", "1"))), (1, 2, (11, 11)))

    def test_a_nought_alone_is_a_number(self):
        self.assertEqual(mended(((("5",), ("3",)), ("5",))), (1, 3, (2, 3, 5)))
        self.assertEqual(mended(clear(7, 3, 7)), (1, 2, (4, 3, 7)))
        self.assertEqual(mended(((("9",), ("9",)), ("9",))), (1, 2, (0, 9, 9)))

    def test_the_first_in_order_as_tuples(self):
        # The parts go first, whatever stands at the greater places of those behind.
        self.assertEqual(mended(clear(11, 11, 33)), (2, 17, (11, 11, 22)))
        self.assertEqual(mended(clear(21, 10, 41)), (1, 3, (21, 10, 31)))
        self.assertEqual(mended(clear(41, 10, 31)), (1, 2, (21, 10, 31)))


class Manners(unittest.TestCase):
    def test_names_of_the_arguments(self):
        self.assertEqual(str(inspect.signature(mended)), "(page)")
        self.assertEqual(mended(page=clear(1, 1)), (0, 1, (1, 1)))

    def test_kinds_of_values(self):
        told = mended(clear(11, 11, 33))
        self.assertEqual([type(one) for one in (told, *told, *told[2])], [tuple, int, int, tuple, int, int, int])

    def test_the_same_answer_each_time(self):
        first = [mended(page) for page in ALL]
        self.assertEqual([mended(page) for page in reversed(ALL)], first[::-1])

    def test_somewhat_beyond_the_limits(self):
        # 90 comes of ten nines; for 89 each of them may be an 8, for 98 the total alone can be misread.
        self.assertEqual(mended(clear(*[9] * 10, 89)), (1, 10, (8, *[9] * 9, 89)))
        self.assertEqual(mended(clear(*[9] * 10, 98)), (1, 1, (*[9] * 10, 90)))
        self.assertEqual(mended(clear(10 ** 14, 10 ** 14)), (0, 1, (10 ** 14, 10 ** 14)))


if __name__ == "__main__":
    unittest.main()

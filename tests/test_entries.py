"""Promises 4 and 5, and 2 as far as it speaks of entries."""

import inspect
import itertools
import random
import unittest

import brute
from brute import BLOT, THINGS
from blotsum import entries
from blotsum.entries import (ends_of, how_many_readings, is_entry, is_reading, is_spot, reading_at,
                             readings_below, remainders)
from blotsum.errors import AskedError, BlotError, NoDivisor, NoNumber

# Every entry of one spot with at most two figures, edges that the document names, and some more.
SMALL = [(spot,) for many in (1, 2) for spot in map("".join, itertools.combinations(BLOT, many))]
SMALL += [(BLOT,), ("0", "1"), ("0", BLOT), ("0", "0"), ("01", "0"), ("01", "01"), ("0", "1", "2"), (BLOT, BLOT),
          ("38", "5"), ("38", BLOT, "38"), ("9", "0", "0"), ("019", "0", "09"), ("1", "2", "3", "4")]
SMALL += [brute.some_entry(random.Random(seed), 4, 5) for seed in range(60)]
OUTSIDE = [-(10 ** 40 - 1), -10, -1, 10 ** 12, 10 ** 13 + 5, 10 ** 40 - 1]


class Kinds(unittest.TestCase):
    def test_spots(self):
        for many in range(1, 11):
            for figures in itertools.combinations(BLOT, many):
                self.assertIs(is_spot("".join(figures)), True)

    def test_no_spots(self):
        for thing in ("", "10", "00", "011", "a", "1a", " ", " 1", "1 ", "1\n", "-1", "[12]", "?", "012345678",
                      "99", BLOT + "0", BLOT[::-1], BLOT * 200, "1" * 2000):
            self.assertIs(is_spot(thing), thing == "012345678", thing)

    def test_spots_of_anything(self):
        for thing in THINGS:
            right = isinstance(thing, str) and thing != "" and "".join(sorted(set(thing) & set(BLOT))) == thing
            self.assertIs(is_spot(thing), right, thing)

    def test_entries(self):
        for entry in [*SMALL, (BLOT,) * 12, ("0",) * 12]:
            self.assertIs(is_entry(entry), True, entry)

    def test_no_entries(self):
        for thing in ((), ("1",) * 13, (BLOT,) * 13, ["1"], ["1", "2"], "1", "12", ("1", ""), ("", "1"), ("21",),
                      (1,), ("1", 1), (True,), (None,), (("1",),), (["1"],), ("1", "2", "a"), ("11",)):
            self.assertIs(is_entry(thing), False, thing)

    def test_entries_of_anything(self):
        for thing in THINGS:
            right = isinstance(thing, tuple) and 1 <= len(thing) <= 12 and all(is_spot(spot) for spot in thing)
            self.assertIs(is_entry(thing), right, thing)


class Readings(unittest.TestCase):
    def test_all_gone_through(self):
        for entry in SMALL:
            right = brute.readings(entry)
            self.assertEqual(how_many_readings(entry), len(right), entry)
            self.assertEqual([reading_at(entry, number) for number in range(len(right))], right, entry)
            self.assertEqual(ends_of(entry), (right[0], right[-1]) if right else None, entry)

    def test_whether_and_below(self):
        for entry in SMALL:
            right = brute.readings(entry)
            numbers = [*right, *[n + 1 for n in right], *[n - 1 for n in right], *range(-12, 130), *OUTSIDE]
            for number in numbers:
                self.assertIs(is_reading(entry, number), number in right, (entry, number))
                self.assertEqual(readings_below(entry, number), sum(n < number for n in right), (entry, number))

    def test_one_spot_may_be_nought(self):
        self.assertEqual(how_many_readings(("0",)), 1)
        self.assertEqual(ends_of(("0",)), (0, 0))
        self.assertIs(is_reading(("0",), 0), True)
        self.assertEqual(reading_at(("05",), 0), 0)
        self.assertEqual(readings_below(("05",), 1), 1)

    def test_the_first_of_several_is_none_nought(self):
        self.assertEqual(how_many_readings(("05", "3")), 1)
        self.assertEqual(reading_at(("05", "3"), 0), 53)
        self.assertIs(is_reading(("05", "3"), 3), False)
        self.assertEqual(readings_below(("05", "3"), 53), 0)

    def test_without_any_reading(self):
        for entry in (("0", "1"), ("0", BLOT), ("0",) + (BLOT,) * 11):
            self.assertEqual(how_many_readings(entry), 0)
            self.assertIsNone(ends_of(entry))
            for number in (-1, 0, 1, 5, 10, 10 ** 12):
                self.assertIs(is_reading(entry, number), False)
                self.assertEqual(readings_below(entry, number), 0)
                with self.assertRaises(NoNumber) as caught:
                    reading_at(entry, number)
                self.assertEqual((caught.exception.number, caught.exception.among), (number, 0))
            self.assertEqual(remainders(entry), [0] * 9)

    def test_no_number(self):
        for entry in (("0",), ("38", "5"), (BLOT,) * 12):
            many = how_many_readings(entry)
            for number in (-(10 ** 40 - 1), -many - 1, -many, -1, many, many + 1, 10 ** 40 - 1):
                with self.assertRaises(NoNumber) as caught:
                    reading_at(entry, number)
                self.assertEqual((caught.exception.number, caught.exception.among), (number, many))
                self.assertNotIsInstance(caught.exception, BlotError)

    def test_a_truth_is_no_reading(self):
        self.assertIs(is_reading(("1",), True), False)
        self.assertIs(is_reading(("0",), False), False)
        self.assertIs(is_reading(("1",), 1), True)

    def test_a_truth_is_no_number(self):
        for truth in (True, False):
            with self.assertRaises(NoNumber) as caught:
                reading_at(("123",), truth)
            self.assertIs(caught.exception.number, truth)
            self.assertRaises(NoDivisor, remainders, ("123",), truth)

    def test_twelve_blots(self):
        entry = (BLOT,) * 12
        self.assertEqual(how_many_readings(entry), 9 * 10 ** 11)
        self.assertEqual(ends_of(entry), (10 ** 11, 10 ** 12 - 1))
        for number in (0, 1, 777777777777, 9 * 10 ** 11 - 1):
            reading = reading_at(entry, number)
            self.assertEqual(reading, 10 ** 11 + number)
            self.assertIs(is_reading(entry, reading), True)
            self.assertEqual(readings_below(entry, reading), number)
        self.assertEqual(readings_below(entry, 10 ** 12), 9 * 10 ** 11)
        self.assertEqual(readings_below(entry, 10 ** 11), 0)

    def test_twelve_spots_there_and_back(self):
        for seed in range(40):
            chance = random.Random(seed)
            entry = tuple(brute.some_spot(chance) for _ in range(12))
            many = how_many_readings(entry)
            for number in {0, many // 3, many // 2, many - 1} if many else ():
                reading = reading_at(entry, number)
                self.assertIs(is_reading(entry, reading), True)
                self.assertEqual(readings_below(entry, reading), number)
                self.assertEqual(readings_below(entry, reading + 1), number + 1)

    def test_somewhat_beyond_the_limit(self):
        self.assertEqual(how_many_readings((BLOT,) * 13), 9 * 10 ** 12)
        self.assertEqual(reading_at((BLOT,) * 13, 5), 10 ** 12 + 5)
        self.assertEqual(sum(remainders((BLOT,) * 13, 7)), 9 * 10 ** 12)


class Remainders(unittest.TestCase):
    def test_all_gone_through(self):
        for entry in SMALL:
            right = brute.readings(entry)
            for divisor in (2, 3, 7, 9, 10, 11, 50, 98, 99):
                counts = [sum(n % divisor == r for n in right) for r in range(divisor)]
                self.assertEqual(remainders(entry, divisor), counts, (entry, divisor))

    def test_every_divisor(self):
        right = brute.readings(("019", BLOT, "258"))
        for divisor in range(2, 100):
            counts = [sum(n % divisor == r for n in right) for r in range(divisor)]
            self.assertEqual(remainders(("019", BLOT, "258"), divisor), counts)

    def test_nine_where_it_is_left_out(self):
        self.assertEqual(remainders(("38", BLOT)), remainders(("38", BLOT), 9))
        self.assertEqual(len(remainders(("5",))), 9)

    def test_no_divisor(self):
        for divisor in (-(10 ** 40 - 1), -9, -2, -1, 0, 1, 100, 101, 10 ** 40 - 1):
            for entry in (("5",), ("0", "1"), (BLOT,) * 12):
                with self.assertRaises(NoDivisor) as caught:
                    remainders(entry, divisor)
                self.assertEqual(caught.exception.divisor, divisor)
                self.assertIsInstance(caught.exception, AskedError)

    def test_twelve_blots(self):
        for divisor in (2, 9, 97, 99):
            counts = [(10 ** 12 - 1 - r) // divisor - (10 ** 11 - 1 - r) // divisor for r in range(divisor)]
            self.assertEqual(remainders((BLOT,) * 12, divisor), counts)


class Manners(unittest.TestCase):
    def test_names_of_the_arguments(self):
        told = {"is_spot": "(thing)", "is_entry": "(thing)", "how_many_readings": "(entry)",
                "readings_below": "(entry, number)", "ends_of": "(entry)", "is_reading": "(entry, number)",
                "reading_at": "(entry, number)", "remainders": "(entry, divisor=9)"}
        for name, arguments in told.items():
            self.assertEqual(str(inspect.signature(getattr(entries, name))), arguments)
        self.assertEqual(reading_at(number=1, entry=("38",)), 8)
        self.assertEqual(remainders(divisor=2, entry=("38",)), [1, 1])

    def test_the_list_is_the_askers_own(self):
        told = remainders(("38", BLOT), 5)
        kept = list(told)
        told.clear()
        self.assertEqual(remainders(("38", BLOT), 5), kept)

    def test_kinds_of_values(self):
        for entry in SMALL:
            self.assertIs(type(how_many_readings(entry)), int)
            self.assertIs(type(readings_below(entry, 5)), int)
            self.assertIs(type(remainders(entry)), list)
            if how_many_readings(entry):
                self.assertIs(type(ends_of(entry)), tuple)
                self.assertIs(type(reading_at(entry, 0)), int)


if __name__ == "__main__":
    unittest.main()

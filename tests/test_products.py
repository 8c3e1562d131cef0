"""Promise 12, and 2 and 3 as far as they speak of products; small products, all fillings gone through."""

import inspect
import random
import unittest

import brute
from brute import BLOT, THINGS
from blotsum import products as module
from blotsum.entries import how_many_readings, is_entry, is_spot
from blotsum.errors import AskedError, BlotError, NoFilling, NoNumber, ToldError
from blotsum.products import is_product, times_at, times_many, times_narrowed
from blotsum.sums import how_many

EDGES = [
    (("1",), "1", ("1",)),
    ((BLOT,), BLOT, (BLOT,)),
    ((BLOT,), BLOT, (BLOT, BLOT)),
    ((BLOT, BLOT), BLOT, (BLOT, BLOT)),
    ((BLOT, BLOT), BLOT, (BLOT, BLOT, BLOT)),
    ((BLOT, BLOT), BLOT, (BLOT,)),
    ((BLOT, BLOT), "0", ("0",)),
    ((BLOT, BLOT), "0", (BLOT,)),
    ((BLOT, BLOT), "05", ("05",)),
    ((BLOT,), "0", ("0",)),
    (("0",), BLOT, ("0",)),
    (("0",), BLOT, (BLOT,)),
    (("05",), "02", ("01", "0")),
    (("05",), "02", ("0",)),
    ((BLOT, BLOT), "1", (BLOT, BLOT)),
    (("012", "5"), "01", ("01", "5")),
    (("01", "2"), "37", ("03", "6")),
    (("1", "2", "5"), "8", ("1", "0", "0", "0")),
    (("1", "248", "2", "8", "5", "7"), "3", ("4", "2", "8", "5", "7", "1")),
]
WITHOUT = [
    (("1",), "1", ("2",)),
    (("1",), "2", ("1",)),
    (("0", BLOT), BLOT, (BLOT, BLOT)),
    ((BLOT, BLOT), BLOT, ("0", BLOT)),
    ((BLOT, BLOT), "0", (BLOT, BLOT)),
    ((BLOT, BLOT), "123456789", (BLOT,)),
    ((BLOT,), BLOT, (BLOT, BLOT, BLOT)),
    (("0",), BLOT, ("123456789",)),
    ((BLOT, "0123456789"), "2468", (BLOT, BLOT, "13579")),
    (("0",), "5", (BLOT, BLOT)),
]


def some_products(seed, many, most_spots=3):
    chance = random.Random(seed)
    return [(brute.some_entry(chance, most_spots), brute.some_spot(chance), brute.some_entry(chance, most_spots))
            for _ in range(many)]


SOME = some_products(41, 150) + [brute.product_around(seed, 1 + seed % 4)[0] for seed in range(80)]
ALL = EDGES + WITHOUT + SOME


def numbers_among(many):
    if many <= 60:
        return list(range(many))
    return [*range(10), *range(10, many, many // 20), many - 1]


class Kinds(unittest.TestCase):
    def test_products(self):
        for product in [*ALL, ((BLOT,) * 12, BLOT, (BLOT,) * 12)]:
            self.assertIs(is_product(product), True, product)

    def test_no_products(self):
        one = ("1",)
        for thing in ([one, "1", one], (["1"], "1", one), (one, "1", ["1"]), (one, ["1"], one), (one, one, one),
                      (one, "", one), (one, "10", one), (one, 1, one), (one, "1"), (one, "1", one, one), ("1", "1", "1"),
                      ((), "1", one), (one, "1", ()), (("1",) * 13, "1", one), (one, "1", ("1",) * 13), (),
                      (one, "a", one), (("a",), "1", one), (one, "1", ("a",)), (one, None, one), (one, True, one)):
            self.assertIs(is_product(thing), False, thing)

    def test_products_of_anything(self):
        one = ("1",)
        for thing in THINGS:
            self.assertIs(is_product(thing), False, thing)
            self.assertIs(is_product((thing, "1", one)), is_entry(thing), thing)
            self.assertIs(is_product((one, thing, one)), is_spot(thing), thing)
            self.assertIs(is_product((one, "1", thing)), is_entry(thing), thing)


class Fillings(unittest.TestCase):
    def test_all_gone_through(self):
        for product in ALL:
            right = brute.times_fillings(product)
            self.assertEqual(times_many(product), len(right), product)
            for number in numbers_among(len(right)):
                self.assertEqual(times_at(product, number), right[number], product)

    def test_there_are_small_and_greater_ones(self):
        many = [len(brute.times_fillings(product)) for product in ALL]
        self.assertGreater(sum(one == 0 for one in many), 20)
        self.assertGreater(sum(0 < one < 10 for one in many), 40)
        self.assertGreater(sum(one >= 10 for one in many), 40)

    def test_the_figure_nought(self):
        blots = (BLOT, BLOT)
        self.assertEqual(times_many((blots, "0", ("0",))), 90)
        self.assertEqual(times_at((blots, "0", (BLOT,)), 89), (99, 0, 0))
        self.assertEqual(times_many((blots, "0", blots)), 0)
        self.assertEqual(times_many((blots, "0", ("123456789",))), 0)
        self.assertEqual(times_narrowed((blots, BLOT, (BLOT,))), (("123456789", BLOT), "0", ("0",)))

    def test_nought_times_any_figure(self):
        product = (("0",), "258", ("01",))
        self.assertEqual([times_at(product, number) for number in range(3)], [(0, 2, 0), (0, 5, 0), (0, 8, 0)])
        self.assertEqual(times_narrowed(product), (("0",), "258", ("0",)))

    def test_the_figure_one(self):
        for entry, spot, total in SOME:
            self.assertEqual(times_many((entry, "1", entry)), how_many_readings(entry))
            self.assertEqual(times_many((entry, "1", total)), how_many(((entry,), total)))

    def test_in_order_as_tuples(self):
        self.assertEqual([times_at((("12",), "123", (BLOT,)), number) for number in range(6)],
                         [(1, 1, 1), (1, 2, 2), (1, 3, 3), (2, 1, 2), (2, 2, 4), (2, 3, 6)])

    def test_several_spots_with_nought_in_the_first(self):
        self.assertEqual(times_many((("01", "2"), "3", ("03", "6"))), 1)
        self.assertEqual(times_at((("01", "2"), "3", ("03", "6")), 0), (12, 3, 36))
        self.assertEqual(times_many((("0", "2"), "3", ("6",))), 0)
        self.assertEqual(times_many((("2",), "3", ("0", "6"))), 0)
        self.assertEqual(times_many((("0", "2"), "3", ("0", "6"))), 0)

    def test_no_number(self):
        for product in ALL[:60]:
            many = times_many(product)
            for number in (-(10 ** 40 - 1), -many - 1, -1, many, many + 1, 10 ** 40 - 1, 10 ** 5000):
                with self.assertRaises(NoNumber) as caught:
                    times_at(product, number)
                self.assertEqual((caught.exception.number, caught.exception.among), (number, many))
                self.assertNotIsInstance(caught.exception, BlotError)

    def test_a_truth_is_no_number(self):
        for truth in (True, False):
            with self.assertRaises(NoNumber) as caught:
                times_at(EDGES[1], truth)
            self.assertIs(caught.exception.number, truth)


class Narrowed(unittest.TestCase):
    def test_all_gone_through(self):
        for product in ALL:
            if not brute.times_fillings(product):
                with self.assertRaises(NoFilling) as caught:
                    times_narrowed(product)
                self.assertIs(type(caught.exception), NoFilling)
                self.assertIsInstance(caught.exception, AskedError)
                self.assertNotIsInstance(caught.exception, ToldError)
                continue
            told = times_narrowed(product)
            self.assertEqual(told, brute.times_narrowed(product), product)
            self.assertIs(is_product(told), True)
            self.assertEqual(times_narrowed(told), told)
            self.assertEqual(brute.times_fillings(told), brute.times_fillings(product))


class Manners(unittest.TestCase):
    def test_names_of_the_arguments(self):
        told = {"is_product": "(thing)", "times_many": "(product)", "times_at": "(product, number)",
                "times_narrowed": "(product)"}
        for name, arguments in told.items():
            self.assertEqual(str(inspect.signature(getattr(module, name))), arguments)
        self.assertEqual(times_at(number=0, product=EDGES[0]), (1, 1, 1))

    def test_kinds_of_values(self):
        told = times_at(EDGES[4], 5)
        self.assertEqual([type(told), *map(type, told)], [tuple, int, int, int])
        told = times_narrowed(EDGES[4])
        self.assertEqual([type(told), *map(type, told)], [tuple, tuple, str, tuple])

    def test_the_same_answer_each_time(self):
        for product in EDGES:
            first = times_many(product), times_at(product, 0), times_narrowed(product)
            self.assertRaises(NoNumber, times_at, product, -1)
            self.assertEqual((times_many(product), times_at(product, 0), times_narrowed(product)), first)

    def test_nothing_handed_in_is_changed(self):
        thing = [["1"], "1", [["1"]]]
        is_product(thing)
        self.assertEqual(thing, [["1"], "1", [["1"]]])

    def test_somewhat_beyond_the_limits(self):
        long = ("1", *[BLOT] * 13)
        self.assertEqual(times_many((long, "1", long)), 10 ** 13)
        self.assertEqual(times_at((long, "5", (*"5", *[BLOT] * 13)), 0), (10 ** 13, 5, 5 * 10 ** 13))


if __name__ == "__main__":
    unittest.main()

"""Promises 13 and 14, and 2 and 3 as far as they speak of riddles."""

import copy
import inspect
import itertools
import random
import string
import unittest

import brute
from brute import BLOT, THINGS
from blotsum import riddles
from blotsum.riddles import is_riddle, is_solution, solutions_many, solved, sum_of_riddle
from blotsum.sums import is_filling, is_sum

CHANCE = random.Random(131)
FEW = [brute.some_riddle(CHANCE, "abcd"[:1 + at % 4], most_letters=1 + at % 5) for at in range(80)]
AROUND = [brute.riddle_around(CHANCE, CHANCE.sample(string.ascii_lowercase, 3 + at % 3)) for at in range(2000)]
AROUND = sorted({riddle for riddle in AROUND if riddle}, key=lambda riddle: (-len("".join(riddle[0])), riddle))
EDGES = [
    (("a",), "a"), (("a",), "b"), (("a", "a"), "a"), (("a", "b"), "a"), (("a", "a"), "b"), (("aa",), "aa"),
    (("a",), "aa"), (("aa",), "a"), (("ab",), "ba"), (("a", "ab"), "ab"), (("z", "az"), "az"), (("a", "b"), "c"),
    (("a", "a", "a", "a"), "ba"), (("ab", "ab"), "cb"), (("abc", "abc"), "bca"), (("a", "ba"), "ca"),
    (("aaaaaaaa",), "aaaaaaaa"), (("abababab", "a"), "abababab"), (("ab", "ba"), "aca"), (("zy", "yz"), "xx"),
    (("a", "bb"), "acc"), (("e", "ee", "eee"), "bcd"), (("ab", "cd"), "cd"), (("a", "bcd"), "bcd"),
    (("ba", "a"), "cd"),
]
SIX = [(("abcdef",), "abcdef"), (("abc", "def"), "fed"), (("zy", "xw"), "vu"), (("abcdef", "f"), "abcdfe"),
       (("ab", "cd", "ef", "a"), "bcd"), (("a", "b", "c", "d"), "ef"), (("abcabc", "defdef"), "fedcba")]
ALL = EDGES + FEW + AROUND[:40] + AROUND[-10:] + SIX


def as_lists(riddle):
    return [list(one) for one in brute.solutions(riddle)]


class IsRiddle(unittest.TestCase):
    def test_riddles(self):
        for riddle in ALL:
            self.assertIs(is_riddle(riddle), True, riddle)

    def test_six_and_seven_unlike_letters(self):
        self.assertIs(is_riddle((("abc", "de"), "f")), True)
        self.assertIs(is_riddle((("abc", "de"), "fabcde")), True)
        self.assertIs(is_riddle((("abc", "de"), "fg")), False)
        self.assertIs(is_riddle((("abcdefg",), "abcdefg")), False)
        self.assertIs(is_riddle((("a", "b", "c", "d"), "efg")), False)
        self.assertIs(is_riddle((("send", "more"), "money")), False)

    def test_words_of_eight_and_of_nine_letters(self):
        self.assertIs(is_riddle((("a" * 8,), "b" * 8)), True)
        self.assertIs(is_riddle((("a" * 9,), "b")), False)
        self.assertIs(is_riddle((("a",), "b" * 9)), False)
        self.assertIs(is_riddle((("a", "b" * 9), "b")), False)
        self.assertIs(is_riddle((("",), "b")), False)
        self.assertIs(is_riddle((("a",), "")), False)

    def test_four_and_five_words(self):
        self.assertIs(is_riddle((("a",) * 4, "b")), True)
        self.assertIs(is_riddle((("a",) * 5, "b")), False)
        self.assertIs(is_riddle(((), "b")), False)

    def test_small_letters_only(self):
        for sign in map(chr, [10, *range(32, 127)]):
            right = sign in string.ascii_lowercase
            for riddle in (((sign,), "a"), (("a",), sign), (("a" + sign, "b"), "c"), (("a",), sign + "b")):
                self.assertIs(is_riddle(riddle), right, riddle)

    def test_lists_and_other_shapes(self):
        for thing in (["a"], ("a",)), [("a",), "a"], (["a"], "a"), ("a", "a"), (("a",), ("a",)), (("a",), ["a"]), \
                (("a",),), (("a",), "a", "a"), (("a", None), "a"), (("a",), None), (("a", True), "a"), (("a", 1), 1), \
                ((("a",),), "a"), (("a", ["a"]), "a"), (None, "a"), ("abc", "a"):
            self.assertIs(is_riddle(thing), False, thing)

    def test_of_anything(self):
        for thing in [*THINGS, *[(one, "a") for one in THINGS], *[(("a",), one) for one in THINGS],
                      *[(("a", one), "a") for one in THINGS]]:
            self.assertIs(is_riddle(thing), thing in [(("a", "a"), "a"), (("a",), "a")], thing)


class Solutions(unittest.TestCase):
    def test_all_gone_through(self):
        for riddle in ALL:
            right = as_lists(riddle)
            self.assertEqual(solutions_many(riddle), len(right), riddle)
            if not right:
                self.assertEqual(solved(riddle), ("none",), riddle)
            elif len(right) == 1:
                self.assertEqual(solved(riddle), ("one", right[0]), riddle)
            else:
                self.assertEqual(solved(riddle), ("more", right[0], right[1]), riddle)

    def test_there_are_some_of_each(self):
        many = [len(brute.solutions(riddle)) for riddle in ALL]
        self.assertGreater(sum(one == 0 for one in many), 20)
        self.assertGreater(sum(one == 1 for one in many), 12)
        self.assertGreater(sum(one > 2 for one in many), 20)
        self.assertGreater(sum(one == 2 for one in many), 1)

    def test_by_hand(self):
        self.assertEqual(solved((("a", "a"), "a")), ("one", [("a", 0)]))
        self.assertEqual(solved((("aa", "aa"), "aa")), ("none",))
        self.assertEqual(solved((("a",), "a")), ("more", [("a", 0)], [("a", 1)]))
        self.assertEqual(solved((("aa",), "aa")), ("more", [("a", 1)], [("a", 2)]))
        self.assertEqual(solved((("a",), "b")), ("none",))
        self.assertEqual(solved((("a", "b"), "a")), ("more", [("a", 1), ("b", 0)], [("a", 2), ("b", 0)]))
        self.assertEqual((solutions_many((("a",), "a")), solutions_many((("aa",), "aa"))), (10, 9))
        self.assertEqual(solutions_many((("abcdef",), "abcdef")), 9 * 9 * 8 * 7 * 6 * 5)

    def test_kinds_of_values(self):
        for riddle in ALL:
            self.assertIs(type(solutions_many(riddle)), int)
            stand = solved(riddle)
            self.assertIs(type(stand), tuple)
            for solution in stand[1:]:
                self.assertIs(type(solution), list)
                for row in solution:
                    self.assertEqual([type(row), type(row[0]), type(row[1])], [tuple, str, int])

    def test_what_is_told_is_a_solution(self):
        for riddle in ALL:
            for solution in solved(riddle)[1:]:
                self.assertIs(is_solution(riddle, solution), True)

    def test_letters_renamed_in_order(self):
        # Letters that rise as the old ones do have the same figures.
        names = {ord(letter): name for letter, name in zip("abcdef", "bgmqyz")}
        for riddle in [*FEW, *EDGES[3:20]]:
            if set("".join((*riddle[0], riddle[1]))) <= set("abcdef"):
                other = tuple(word.translate(names) for word in riddle[0]), riddle[1].translate(names)
                self.assertEqual([[figure for _, figure in one] for one in solved(other)[1:]],
                                 [[figure for _, figure in one] for one in solved(riddle)[1:]])

    def test_somewhat_beyond_the_limits(self):
        self.assertEqual(solutions_many((("send", "more"), "money")), 1)
        self.assertEqual(solved((("a",) * 5, "a")), ("one", [("a", 0)]))
        self.assertEqual(solutions_many((("a" * 9,), "a" * 9)), 9)
        self.assertIs(is_solution((("a" * 9,), "a" * 9), [("a", 7)]), True)
        self.assertEqual(sum_of_riddle((("a" * 9,) * 5, "b")), (((BLOT,) * 9,) * 5, (BLOT,)))


class IsSolution(unittest.TestCase):
    def test_all_figures_gone_through(self):
        for riddle in [*EDGES, *FEW[:40]]:
            letters = brute.riddle_letters(riddle)
            if len(letters) > 3:
                continue
            right = as_lists(riddle)
            for figures in itertools.product(range(10), repeat=len(letters)):
                thing = list(zip(letters, figures))
                self.assertIs(is_solution(riddle, thing), thing in right, (riddle, thing))

    def test_some_unlike_figures(self):
        chance = random.Random(132)
        for riddle in AROUND + SIX[1:]:
            letters = brute.riddle_letters(riddle)
            for _ in range(5):
                figures = chance.sample(range(10), len(letters))
                thing = list(zip(letters, figures))
                self.assertIs(is_solution(riddle, thing), brute.solves(riddle, dict(thing)))

    def wrong_ones(self, right):
        """Things that are near a solution and are none."""
        rows = list(right)
        yield from (rows[:-1], rows[1:], [*rows, rows[-1]], [*rows, ("q", 7)], [], [rows], tuple(rows), dict(rows))
        if len(rows) > 1:
            yield from (rows[::-1], [rows[1], rows[0], *rows[2:]], [rows[0], *rows], [rows[0]] * len(rows))
        for at, (letter, figure) in enumerate(rows):
            for row in ([letter, figure], (letter,), (letter, figure, 0), (figure, letter), (letter, str(figure)),
                        (letter.upper(), figure), (letter * 2, figure), ("", figure), ([letter], figure), None,
                        (letter, None), (letter, [figure]), (letter, figure + 10), (letter, figure - 10),
                        (letter, -figure - 1), (letter, 10 ** 39), letter + str(figure), figure, True, (),
                        (None, figure), (True, figure), (0, figure), ((letter,), figure), (letter, (figure,))):
                yield [*rows[:at], row, *rows[at + 1:]]
            if figure < 2:
                yield [*rows[:at], (letter, bool(figure)), *rows[at + 1:]]
            for other, like in rows:
                if other != letter:
                    yield [*rows[:at], (letter, like), *rows[at + 1:]]

    def test_near_ones(self):
        seen = 0
        for riddle in ALL:
            for right in as_lists(riddle)[:2]:
                for thing in self.wrong_ones(right):
                    seen += 1
                    self.assertIs(is_solution(riddle, thing), False, (riddle, thing))
        self.assertGreater(seen, 5000)

    def test_of_anything(self):
        for riddle in [(("a",), "a"), (("a", "a"), "a"), (("aa",), "aa"), (("a", "b"), "c"), (("a",), "b")]:
            for thing in THINGS:
                self.assertIs(is_solution(riddle, thing), False, thing)
                self.assertIs(is_solution(riddle, [thing]), False, thing)
                self.assertIs(is_solution(riddle, [(thing, 1)]), thing == "a" and [("a", 1)] in as_lists(riddle), thing)
                self.assertIs(is_solution(riddle, [("a", thing)]),
                              as_lists(riddle).count([("a", thing)]) > 0 and type(thing) is int, thing)

    def test_truths_are_no_figures(self):
        self.assertIs(is_solution((("a",), "a"), [("a", 0)]), True)
        self.assertIs(is_solution((("a",), "a"), [("a", False)]), False)
        self.assertIs(is_solution((("a",), "a"), [("a", 1)]), True)
        self.assertIs(is_solution((("a",), "a"), [("a", True)]), False)
        self.assertIs(is_solution((("a", "b"), "b"), [("a", False), ("b", True)]), False)

    def test_noughts(self):
        self.assertIs(is_solution((("a", "b"), "b"), [("a", 0), ("b", 5)]), True)
        self.assertIs(is_solution((("b", "ab"), "ab"), [("a", 1), ("b", 0)]), True)
        self.assertIs(is_solution((("ab", "b"), "ac"), [("a", 0), ("b", 2), ("c", 4)]), False)
        self.assertIs(is_solution((("c", "c"), "ab"), [("a", 0), ("b", 8), ("c", 4)]), False)
        self.assertIs(is_solution((("c", "c"), "ab"), [("a", 1), ("b", 8), ("c", 9)]), True)


class SumOfRiddle(unittest.TestCase):
    def test_blots(self):
        for riddle in ALL:
            words, total = riddle
            told = sum_of_riddle(riddle)
            self.assertIs(is_sum(told), True)
            self.assertEqual(told, (tuple(tuple(BLOT for _ in word) for word in words), tuple(BLOT for _ in total)))

    def test_numbers_of_solutions_are_fillings(self):
        for riddle in ALL:
            for solution in as_lists(riddle)[:20]:
                signs = {ord(letter): str(figure) for letter, figure in solution}
                numbers = tuple(int(word.translate(signs)) for word in (*riddle[0], riddle[1]))
                self.assertIs(is_filling(sum_of_riddle(riddle), numbers), True)


class Manners(unittest.TestCase):
    def test_names_of_the_arguments(self):
        told = {"is_riddle": "(thing)", "is_solution": "(riddle, thing)", "solutions_many": "(riddle)",
                "solved": "(riddle)", "sum_of_riddle": "(riddle)"}
        for name, arguments in told.items():
            self.assertEqual(str(inspect.signature(getattr(riddles, name))), arguments)
        self.assertIs(is_solution(thing=[("a", 5)], riddle=(("a",), "a")), True)

    def test_lists_are_the_askers_own(self):
        for riddle in ALL:
            kept = copy.deepcopy(solved(riddle))
            told = solved(riddle)
            self.assertEqual(len({id(one) for one in told[1:]}), len(told[1:]))
            for solution in told[1:]:
                solution.clear()
            self.assertEqual(solved(riddle), kept)

    def test_nothing_handed_in_is_changed(self):
        thing = [("b", 1), ["a", [2]]]
        is_riddle(thing)
        is_solution((("a",), "b"), thing)
        self.assertEqual(thing, [("b", 1), ["a", [2]]])


if __name__ == "__main__":
    unittest.main()

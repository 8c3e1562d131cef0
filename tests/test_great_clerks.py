"""Promises 2, 3, 15 and 16 where there are far more fillings than can be gone through, and many deeds."""

import random
import time
import unittest

import brute
from brute import BLOT
from blotsum.clerks import Clerk
from blotsum.desk import Desk
from blotsum.errors import Clash, NothingLeft, ToldError, TooMany
from blotsum.sums import filling_at, how_many, is_filling, shares

SOON = 5
ALL_BLOTS = (((BLOT,) * 12,) * 8, (BLOT,) * 12)
FOUR = (((BLOT,) * 11, (BLOT,) * 12, (BLOT,) * 7, (BLOT,)), (BLOT,) * 12)


def with_spot(page, at, spot, figures):
    entries = [*page[0], page[1]]
    entries[at] = (*entries[at][:spot], figures, *entries[at][spot + 1:])
    return tuple(entries[:-1]), entries[-1]


def settled_by_shares(page):
    many = how_many(page)
    told = []
    for at, entry in enumerate(shares(page)):
        for spot, row in enumerate(entry):
            told += [(at, spot, figure) for figure, some in row if len(row) > 1 and many and some == many]
    return told


class Great(unittest.TestCase):
    def soon(self, ask, *told):
        began = time.monotonic()
        answer = ask(*told)
        self.assertLess(time.monotonic() - began, SOON)
        return answer

    def test_nearly_all_blots(self):
        clerk = Clerk(ALL_BLOTS)
        self.assertEqual(self.soon(clerk.many), how_many(ALL_BLOTS))
        self.assertEqual(self.soon(clerk.settled), [])
        self.soon(clerk.look, 0, 0, "2")
        # Then the others begin with 1, and the total with 9, as there is a carry of one at most.
        self.assertEqual(self.soon(clerk.settled), [*[(at, 0, "1") for at in range(1, 8)], (8, 0, "9")])
        with self.assertRaises(Clash):
            self.soon(clerk.look, 3, 0, "23456789")
        self.assertRaises(TooMany, clerk.add, (BLOT,))
        self.soon(clerk.strike, 7)
        self.assertEqual(str(clerk), " + ".join(["2" + "?" * 11, *["?" * 12] * 6]) + " = " + "?" * 12)

    def test_looks_that_lead_to_one_filling(self):
        chance = random.Random(161)
        for seed in range(4):
            page, filling = brute.great_page(seed)
            clerk = Clerk(page)
            spots = [(at, spot) for at, entry in enumerate((*page[0], page[1])) for spot in range(len(entry))]
            chance.shuffle(spots)
            many = clerk.many()
            for at, spot in spots:
                figure = str(filling[at])[spot]
                self.soon(clerk.look, at, spot, "".join(sorted({figure, chance.choice(BLOT)})))
                self.assertTrue(0 < clerk.many() <= many)
                many = clerk.many()
            self.assertIs(is_filling(clerk.page(), filling), True)
            for entry, spot, figure in clerk.settled():
                self.assertEqual(str(filling[entry])[spot], figure)
            while clerk.page() != page:
                clerk.back()
            self.assertEqual(clerk.settled(), settled_by_shares(page))

    def test_settled_is_so_in_each_filling(self):
        seen = 0
        for seed in range(20, 50):
            page, filling = brute.great_page(seed, parts=1 + seed % 8)
            clerk = Clerk(page)
            for at, entry in enumerate((*page[0], page[1])):
                for spot in range(0, len(entry), 2):
                    clerk.look(at, spot, str(filling[at])[spot])
            told = self.soon(clerk.settled)
            seen += len(told)
            self.assertEqual(told, settled_by_shares(clerk.page()))
            many = clerk.many()
            for number in {0, many // 3, many - 1}:
                numbers = filling_at(clerk.page(), number)
                self.assertTrue(all(str(numbers[entry])[spot] == figure for entry, spot, figure in told))
            for entry, spot, figure in told[:5]:
                self.assertEqual(how_many(with_spot(clerk.page(), entry, spot, figure)), many)
                self.assertRaises(Clash, clerk.look, entry, spot, BLOT.replace(figure, ""))
        self.assertGreater(seen, 30)


class ManyDeeds(unittest.TestCase):
    def some_deed(self, chance, clerk):
        """Do something that is perhaps refused; whether it was done."""
        parts, total = clerk.page()
        try:
            kind = chance.randrange(6)
            if kind == 0:
                clerk.add(brute.some_entry(chance, 12))
            elif kind == 1:
                clerk.strike(chance.randrange(len(parts) + 1))
            else:
                entries = [*parts, total]
                at = chance.randrange(len(entries))
                clerk.look(at, chance.randrange(len(entries[at])), BLOT.replace(chance.choice(BLOT), ""))
        except ToldError:
            return False
        return True

    def test_all_taken_back_done_again_and_taken_back(self):
        for seed, page in enumerate([ALL_BLOTS, FOUR]):
            chance = random.Random(seed)
            began = time.monotonic()
            clerk = Clerk(page)
            told = [page]
            while len(told) < 400:
                if self.some_deed(chance, clerk):
                    told.append(clerk.page())
            self.assertGreater(len(set(told)), 150)
            for _ in range(2):
                for one in told[-2::-1]:
                    clerk.back()
                    self.assertEqual(clerk.page(), one)
                self.assertRaises(NothingLeft, clerk.back)
                self.assertTrue(clerk == Clerk(page))
                self.assertEqual((clerk.many(), clerk.settled(), str(clerk), len(clerk)),
                                 (Clerk(page).many(), Clerk(page).settled(), str(Clerk(page)), len(page[0])))
                for one in told[1:]:
                    clerk.again()
                    self.assertEqual(clerk.page(), one)
                self.assertRaises(NothingLeft, clerk.again)
                self.assertTrue(clerk == Clerk(told[-1]))
            for _ in told[1:]:
                clerk.back()
            self.assertTrue(clerk == Clerk(page))
            self.assertLess(time.monotonic() - began, SOON * 4)

    def test_at_the_desk(self):
        began = time.monotonic()
        desk = Desk()
        start = " + ".join(["?" * 12] * 8) + " = " + "?" * 12
        desk.say("page " + start)
        for at in range(8):
            for spot in range(1, 12):
                self.assertEqual(desk.say(f"look {at} {spot} 0123456"), "ok")
        self.assertEqual(desk.say("strike 7"), "ok")
        self.assertEqual(desk.say("sum"), " + ".join(["?" + "[0123456]" * 11] * 7) + " = " + "?" * 12)
        self.assertEqual(int(desk.say("many")), how_many(((((BLOT,) + ("0123456",) * 11),) * 7, (BLOT,) * 12)))
        for row in ("at 999999999", "settled", "narrow", "mend", "carries"):
            self.assertIsInstance(desk.say(row), str)
        for _ in range(89):
            self.assertEqual(desk.say("back"), "ok")
        self.assertRaises(NothingLeft, desk.say, "back")
        self.assertEqual(desk.say("sum"), start)
        self.assertLess(time.monotonic() - began, SOON * 2)


if __name__ == "__main__":
    unittest.main()

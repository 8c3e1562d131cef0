"""Promises 15 and 16, and 2 and 3 as far as they speak of clerks: against a sum that is kept beside the clerk."""

import copy
import inspect
import random
import unittest

import brute
from brute import BLOT, THINGS
from blotsum.clerks import Clerk
from blotsum.desk import Desk
from blotsum.entries import is_entry, is_spot
from blotsum.errors import (Clash, NoEntry, NoFigures, NoSpot, NoSum, NothingLeft, ToldError, TooFew, TooMany)
from blotsum.sums import how_many, is_sum

ONES = ((("1",), ("1",)), ("2",))
BLOTS = (((BLOT,), (BLOT,)), (BLOT, BLOT))
MIXED = ((("38", BLOT), ("05", "5")), ("19", BLOT))
WITHOUT = ((("12",),), ("3",))
EIGHT = ((("12",),) * 8, (BLOT, BLOT))
FORTY = (-1, -2, 10 ** 39, -(10 ** 40 - 1), 10 ** 40 - 1)


class Beside:
    """What the document says of a clerk, with all sums that ever were, and where among them it stands."""

    def __init__(self, page):
        self.pages = [page]
        self.at = 0

    def page(self):
        return self.pages[self.at]

    def put(self, page):
        self.pages = [*self.pages[:self.at + 1], page]
        self.at += 1

    def look(self, entry, spot, figures):
        entries = [*self.page()[0], self.page()[1]]
        if entry not in range(len(entries)) or spot not in range(len(entries[entry])):
            return "NoSpot"
        if not is_spot(figures):
            return "NoFigures"
        left = "".join(sorted(set(entries[entry][spot]) & set(figures)))
        entries[entry] = (*entries[entry][:spot], left, *entries[entry][spot + 1:])
        page = tuple(entries[:-1]), entries[-1]
        if not left or not brute.fillings(page):
            return "Clash"
        self.put(page)

    def add(self, part):
        if not is_entry(part):
            return "NoEntry"
        if len(self.page()[0]) == 8:
            return "TooMany"
        self.put(((*self.page()[0], part), self.page()[1]))

    def strike(self, entry):
        parts = list(self.page()[0])
        if entry not in range(len(parts)):
            return "NoSpot"
        if len(parts) == 1:
            return "TooFew"
        del parts[entry]
        self.put((tuple(parts), self.page()[1]))

    def back(self):
        if self.at == 0:
            return "NothingLeft"
        self.at -= 1

    def again(self):
        if self.at == len(self.pages) - 1:
            return "NothingLeft"
        self.at += 1


def some_deed(chance, page):
    """A deed, mostly one that can be done, as (name, what is handed in)."""
    entries = [*page[0], page[1]]
    name = chance.choice(["look", "look", "look", "add", "strike", "back", "back", "again"])
    if name == "look":
        entry = chance.randint(-1, len(entries)) if chance.random() < 0.2 else chance.randrange(len(entries))
        most = len(entries[entry]) if 0 <= entry < len(entries) else 2
        spot = chance.randint(-1, most) if chance.random() < 0.2 else chance.randrange(most)
        figures = chance.choice(["", "98", "x", None, ["3"], True]) if chance.random() < 0.1 else brute.some_spot(chance)
        return name, (entry, spot, figures)
    if name == "add":
        return name, (chance.choice([brute.some_entry(chance, 2, 3), ("0",), ("01",), ("1", "23"), None, (), ["1"]]),)
    if name == "strike":
        return name, (chance.randint(-1, len(entries)),)
    return name, ()


def is_small(page):
    """Whether all fillings can soon be gone through."""
    many = 1
    for part in page[0]:
        many *= len(brute.readings(part))
    return many <= 3000


class WithClerk(unittest.TestCase):
    def refused(self, kind, ask, *told, **named):
        """What is refused is so by this class and no other; the refusal."""
        with self.assertRaises(ToldError) as caught:
            ask(*told, **named)
        self.assertIs(type(caught.exception), kind)
        return caught.exception

    def same(self, clerk, page):
        self.assertEqual(clerk.page(), page)
        self.assertEqual(len(clerk), len(page[0]))
        self.assertEqual(str(clerk), brute.sum_text(page))
        self.assertTrue(clerk == Clerk(page))


class BesideASum(WithClerk):
    def test_some_deeds(self):
        chance = random.Random(151)
        seen = {}
        for page in [ONES, BLOTS, MIXED, WITHOUT, EIGHT, EIGHT, EIGHT, *brute.some_pages(152, 80)]:
            clerk, beside = Clerk(page), Beside(page)
            for _ in range(120):
                name, told = some_deed(chance, beside.page())
                if name == "add" and is_entry(told[0]) and not is_small(((*beside.page()[0], told[0]), ("0",))):
                    continue
                right = getattr(beside, name)(*told)
                seen[name, right] = seen.get((name, right), 0) + 1
                if right is None:
                    self.assertIsNone(getattr(clerk, name)(*told))
                else:
                    with self.assertRaises(ToldError) as caught:
                        getattr(clerk, name)(*told)
                    self.assertEqual(type(caught.exception).__name__, right, (name, told))
                self.same(clerk, beside.page())
                self.assertEqual(clerk.many(), len(brute.fillings(beside.page())))
                self.assertEqual(clerk.settled(), brute.settled(beside.page()))
        for name, right in (("look", None), ("look", "NoSpot"), ("look", "NoFigures"), ("look", "Clash"), ("add", None),
                            ("add", "NoEntry"), ("add", "TooMany"), ("strike", None), ("strike", "NoSpot"),
                            ("strike", "TooFew"), ("back", None), ("back", "NothingLeft"), ("again", None),
                            ("again", "NothingLeft")):
            self.assertGreater(seen[name, right], 3, (name, right))

    def test_what_is_told(self):
        settled = 0
        for page in [ONES, BLOTS, MIXED, WITHOUT, EIGHT, *brute.some_pages(153, 400),
                     *[brute.great_page(seed, parts=2, most_spots=3)[0] for seed in range(80)]]:
            clerk = Clerk(page)
            self.same(clerk, page)
            self.assertEqual(clerk.many(), len(brute.fillings(page)), page)
            self.assertEqual(clerk.settled(), brute.settled(page), page)
            settled += len(clerk.settled())
        self.assertGreater(settled, 100)


class Made(WithClerk):
    def test_of_no_sum(self):
        for thing in [*THINGS, [], None, list(ONES), ([("1",)], ("1",)), ((("1",),) * 9, ("9",)), "? = ?", (ONES,)]:
            if is_sum(thing):
                self.assertEqual(Clerk(thing).page(), thing)
            else:
                self.refused(NoSum, Clerk, thing)
        self.refused(NoSum, Clerk, Clerk(ONES))

    def test_without_fillings(self):
        clerk = Clerk(WITHOUT)
        self.assertEqual((clerk.many(), clerk.settled(), clerk.page()), (0, [], WITHOUT))


class Look(WithClerk):
    def test_just_the_seen_ones_of_the_spot(self):
        clerk = Clerk(MIXED)
        self.assertIsNone(clerk.look(0, 0, "35"))
        self.same(clerk, ((("3", BLOT), ("05", "5")), ("19", BLOT)))
        self.assertIsNone(clerk.look(2, 1, "0123456789"))
        self.same(clerk, ((("3", BLOT), ("05", "5")), ("19", BLOT)))
        clerk.look(2, 1, "02468")
        self.same(clerk, ((("3", BLOT), ("05", "5")), ("19", "02468")))

    def test_others_are_left_as_they_are(self):
        # A look narrows no other spot, and leaves the 0 that stands first where it was seen.
        clerk = Clerk(((("05", BLOT), (BLOT,)), (BLOT, BLOT)))
        clerk.look(0, 0, "0157")
        self.assertEqual(clerk.page(), ((("05", BLOT), (BLOT,)), (BLOT, BLOT)))
        clerk.look(1, 0, "0123456789")
        clerk.look(0, 1, "9")
        self.assertEqual(clerk.page(), ((("05", "9"), (BLOT,)), (BLOT, BLOT)))

    def test_the_total(self):
        clerk = Clerk(BLOTS)
        clerk.look(2, 0, "01")
        self.assertEqual(clerk.page(), (((BLOT,), (BLOT,)), ("01", BLOT)))

    def test_no_spot(self):
        clerk = Clerk(MIXED)
        for entry, spot in [(3, 0), (-1, 0), (-3, 0), (0, 2), (0, -1), (1, 2), (2, 2), (2, -2), (4, 0), (0, 12),
                            *[(one, 0) for one in FORTY], *[(0, one) for one in FORTY], (10 ** 39, -10 ** 39)]:
            for figures in ("3", BLOT, "", None, "33", 7):
                error = self.refused(NoSpot, clerk.look, entry, spot, figures)
                self.assertEqual((error.entry, error.spot), (entry, spot))
        for entry, spot in ((True, 0), (0, True), (False, False)):
            self.refused(NoSpot, clerk.look, entry, spot, "3")
        self.same(clerk, MIXED)

    def test_no_figures(self):
        for clerk in (Clerk(MIXED), Clerk(WITHOUT)):
            page = clerk.page()
            for thing in [*THINGS, "", "83", "33", " 3", "3\n", "?", "[38]", ["3", "8"], ("3",), 3, "3 8"]:
                if not is_spot(thing):
                    self.refused(NoFigures, clerk.look, 0, 0, thing)
            self.same(clerk, page)

    def test_clash(self):
        clerk = Clerk(MIXED)
        for entry, spot, figures in ((0, 0, "0124"), (1, 1, "0"), (1, 0, "0"), (2, 0, "234")):
            error = self.refused(Clash, clerk.look, entry, spot, figures)
            self.assertEqual((error.entry, error.spot), (entry, spot))
        clerk = Clerk(ONES)
        self.refused(Clash, clerk.look, 0, 0, "2")
        self.refused(Clash, Clerk(((("12",),), ("1",))).look, 0, 0, "2")
        for entry, spot, figures in ((0, 0, BLOT), (0, 0, "1"), (1, 0, "3")):
            # Where there was no filling none is left, whatever is seen.
            self.refused(Clash, Clerk(WITHOUT).look, entry, spot, figures)
        self.same(clerk, ONES)

    def test_order_of_refusals(self):
        self.refused(NoSpot, Clerk(WITHOUT).look, 2, 0, "")
        self.refused(NoSpot, Clerk(WITHOUT).look, 0, 1, "7")
        self.refused(NoFigures, Clerk(WITHOUT).look, 0, 0, "")
        self.refused(NoFigures, Clerk(ONES).look, 0, 0, "32")

    def test_a_clear_spot_and_the_same_one_twice(self):
        clerk = Clerk(ONES)
        clerk.look(0, 0, "1")
        clerk.look(0, 0, "123")
        self.same(clerk, ONES)
        # A look that leaves all as it is was done, and is taken back like any other.
        clerk.back()
        clerk.back()
        self.refused(NothingLeft, clerk.back)
        clerk = Clerk(BLOTS)
        clerk.look(0, 0, "38")
        clerk.look(0, 0, "38")
        clerk.back()
        self.assertEqual(clerk.page()[0][0], ("38",))
        clerk.back()
        self.same(clerk, BLOTS)


class Parts(WithClerk):
    def test_added_behind_the_others(self):
        clerk = Clerk(ONES)
        self.assertIsNone(clerk.add(("38", BLOT)))
        self.same(clerk, ((("1",), ("1",), ("38", BLOT)), ("2",)))
        self.assertEqual(clerk.many(), 0)
        clerk.add(("0",))
        self.same(clerk, ((("1",), ("1",), ("38", BLOT), ("0",)), ("2",)))

    def test_no_entry(self):
        for clerk in (Clerk(ONES), Clerk(EIGHT)):
            page = clerk.page()
            for thing in [*THINGS, ["1"], "1", (), ("1",) * 13, ("10",), ("1", "")]:
                if not is_entry(thing):
                    self.refused(NoEntry, clerk.add, thing)
            self.same(clerk, page)

    def test_eight_and_no_more(self):
        clerk = Clerk(((("1",),) * 7, ("8",)))
        clerk.add(("1",))
        self.assertEqual(len(clerk), 8)
        self.refused(TooMany, clerk.add, ("1",))
        self.refused(NoEntry, clerk.add, ["1"])
        clerk.strike(3)
        clerk.add(("2",))
        self.same(clerk, ((*[("1",)] * 7, ("2",)), ("8",)))

    def test_struck_by_its_number(self):
        page = (tuple((str(figure),) for figure in range(1, 6)), ("1", "5"))
        for at in range(5):
            clerk = Clerk(page)
            self.assertIsNone(clerk.strike(at))
            self.same(clerk, (page[0][:at] + page[0][at + 1:], page[1]))

    def test_a_part_that_there_is_not(self):
        for page in (ONES, WITHOUT, EIGHT):
            clerk = Clerk(page)
            for entry in (len(page[0]), len(page[0]) + 1, *FORTY, -len(page[0])):
                error = self.refused(NoSpot, clerk.strike, entry)
                self.assertEqual((error.entry, error.spot), (entry, None))
            self.refused(NoSpot, clerk.strike, True if len(page[0]) > 1 else False)
            self.same(clerk, page)

    def test_the_only_one(self):
        clerk = Clerk(WITHOUT)
        self.refused(TooFew, clerk.strike, 0)
        self.refused(NoSpot, clerk.strike, 1)
        clerk.add(("2",))
        clerk.strike(0)
        self.same(clerk, ((("2",),), ("3",)))
        self.refused(TooFew, clerk.strike, 0)

    def test_added_and_struck_without_a_filling(self):
        # Of these two it is not told that a filling must be left.
        clerk = Clerk(ONES)
        clerk.strike(1)
        self.assertEqual((clerk.many(), clerk.settled()), (0, []))
        clerk.add(("3",))
        self.assertEqual(clerk.many(), 0)


class BackAndAgain(WithClerk):
    def test_both_ends(self):
        clerk = Clerk(BLOTS)
        self.refused(NothingLeft, clerk.back)
        self.refused(NothingLeft, clerk.again)
        clerk.look(0, 0, "38")
        self.refused(NothingLeft, clerk.again)
        self.assertIsNone(clerk.back())
        self.refused(NothingLeft, clerk.back)
        self.same(clerk, BLOTS)
        self.assertIsNone(clerk.again())
        self.refused(NothingLeft, clerk.again)
        self.same(clerk, ((("38",), (BLOT,)), (BLOT, BLOT)))

    def test_several(self):
        clerk = Clerk(BLOTS)
        told = [clerk.page()]
        for deed in (lambda: clerk.look(0, 0, "38"), lambda: clerk.add(("7",)), lambda: clerk.strike(0),
                     lambda: clerk.look(2, 0, "1")):
            deed()
            told.append(clerk.page())
        self.assertEqual(len(set(told)), 5)
        for page in told[-2::-1]:
            clerk.back()
            self.same(clerk, page)
        self.refused(NothingLeft, clerk.back)
        for page in told[1:]:
            clerk.again()
            self.same(clerk, page)
        self.refused(NothingLeft, clerk.again)

    def test_again_after_something_else(self):
        for deed in (lambda clerk: clerk.look(1, 0, "5"), lambda clerk: clerk.look(0, 0, BLOT),
                     lambda clerk: clerk.add(("0",)), lambda clerk: clerk.strike(1)):
            clerk = Clerk(BLOTS)
            clerk.look(0, 0, "38")
            clerk.add(("1",))
            clerk.back()
            clerk.back()
            deed(clerk)
            page = clerk.page()
            self.refused(NothingLeft, clerk.again)
            self.same(clerk, page)
            clerk.back()
            self.same(clerk, BLOTS)
            clerk.again()
            self.same(clerk, page)
            self.refused(NothingLeft, clerk.again)

    def test_what_is_refused_and_what_is_asked_are_no_deeds(self):
        clerk = Clerk(BLOTS)
        clerk.look(0, 0, "38")
        clerk.back()
        for kind, ask, told in ((NoSpot, clerk.look, (3, 0, "1")), (NoFigures, clerk.look, (0, 0, "")),
                                (NoEntry, clerk.add, (None,)), (NoSpot, clerk.strike, (2,)), (NothingLeft, clerk.back, ())):
            self.refused(kind, ask, *told)
        self.assertEqual((clerk.many(), clerk.settled(), len(clerk), str(clerk)), (45, [(2, 0, "1")], 2, "? + ? = ??"))
        self.assertTrue(clerk == Clerk(BLOTS))
        clerk.again()
        self.same(clerk, ((("38",), (BLOT,)), (BLOT, BLOT)))
        self.refused(Clash, clerk.look, 0, 0, "1")
        self.refused(NothingLeft, clerk.again)
        clerk.back()
        self.same(clerk, BLOTS)
        self.refused(NothingLeft, clerk.back)

    def test_refused_clashes_and_bounds_leave_what_can_be_done_again(self):
        clerk = Clerk(((("1",),), ("1",)))
        clerk.add(("0",))
        clerk.back()
        self.refused(TooFew, clerk.strike, 0)
        self.refused(Clash, clerk.look, 0, 0, "2")
        clerk.again()
        self.assertEqual(len(clerk), 2)
        clerk = Clerk(EIGHT)
        clerk.strike(0)
        clerk.back()
        self.refused(TooMany, clerk.add, ("1",))
        clerk.again()
        self.assertEqual(len(clerk), 7)


class Settled(WithClerk):
    def test_by_hand(self):
        self.assertEqual(Clerk(((("38", "05"), ("5",)), ("48", "0"))).settled(),
                         [(0, 0, "3"), (0, 1, "5"), (2, 0, "4")])
        self.assertEqual(Clerk(ONES).settled(), [])
        self.assertEqual(Clerk(((("05", "1"),), ("5", "1"))).settled(), [(0, 0, "5")])

    def test_without_fillings(self):
        for page in (WITHOUT, ((("38", "05"),), ("1",)), ((("01", "2"),), ("3", "2"))):
            self.assertEqual(Clerk(page).settled(), [])

    def test_clear_spots_are_not_told(self):
        clerk = Clerk(((("38", "05"), ("5",)), ("48", "0")))
        clerk.look(0, 0, "3")
        self.assertEqual(clerk.settled(), [(0, 1, "5"), (2, 0, "4")])
        clerk.look(2, 0, "4")
        clerk.look(0, 1, "5")
        self.assertEqual(clerk.settled(), [])

    def test_kinds_of_values(self):
        told = Clerk(((("38", "05"), ("5",)), ("48", "0"))).settled()
        self.assertIs(type(told), list)
        for one in told:
            self.assertEqual([type(one), *map(type, one)], [tuple, int, int, str])

    def test_what_is_settled_is_no_clash(self):
        for page in brute.some_pages(154, 60):
            for entry, spot, figure in Clerk(page).settled():
                clerk = Clerk(page)
                others = "".join(sorted(set(BLOT) - {figure}))
                self.refused(Clash, clerk.look, entry, spot, others)
                many = clerk.many()
                clerk.look(entry, spot, figure)
                self.assertEqual(clerk.many(), many)


class Equal(WithClerk):
    def test_by_other_deeds(self):
        one, other = Clerk(BLOTS), Clerk(((("7",), (BLOT,), (BLOT,)), (BLOT, BLOT)))
        self.assertFalse(one == other)
        self.assertTrue(one != other)
        other.strike(0)
        self.assertTrue(one == other)
        self.assertFalse(one != other)
        one.look(0, 0, "0123456")
        one.look(0, 0, "3456789")
        other.look(0, 0, "3456")
        self.assertTrue(one == other)
        other.back()
        self.assertFalse(one == other)
        one.back()
        one.back()
        self.assertTrue(one == other)
        self.assertTrue(one == one)

    def test_not_by_like_sums(self):
        # Parts in another order, and sums with the same fillings, are other sums.
        self.assertFalse(Clerk(((("1",), ("2",)), ("3",))) == Clerk(((("2",), ("1",)), ("3",))))
        self.assertFalse(Clerk(((("12",),), ("1",))) == Clerk(((("1",),), ("1",))))
        self.assertFalse(Clerk(((("1",),), ("12",))) == Clerk(((("1",),), ("1",))))

    def test_to_nothing_else(self):
        clerk = Clerk(BLOTS)
        for thing in [*THINGS, clerk.page(), str(clerk), len(clerk), clerk.many(), Beside(BLOTS), Desk(), Clerk]:
            self.assertIs(clerk == thing, False)
            self.assertIs(thing == clerk, False)
            self.assertIs(clerk != thing, True)

    def test_kinds_of_values(self):
        self.assertIs(Clerk(BLOTS) == Clerk(BLOTS), True)
        self.assertIs(Clerk(BLOTS) == Clerk(ONES), False)


class Manners(WithClerk):
    def test_each_method_is_the_class_own(self):
        told = {"look": "(self, entry, spot, figures)", "add": "(self, part)", "strike": "(self, entry)",
                "back": "(self)", "again": "(self)", "page": "(self)", "many": "(self)", "settled": "(self)"}
        for name, arguments in told.items():
            self.assertEqual(str(inspect.signature(vars(Clerk)[name])), arguments)
        for name in ("__init__", "__len__", "__str__", "__eq__"):
            self.assertIn(name, vars(Clerk))
        self.assertEqual(str(inspect.signature(Clerk)), "(page)")

    def test_arguments_by_their_names(self):
        clerk = Clerk(page=BLOTS)
        clerk.look(figures="38", spot=0, entry=1)
        clerk.add(part=("7",))
        clerk.strike(entry=0)
        self.same(clerk, ((("38",), ("7",)), (BLOT, BLOT)))

    def test_kinds_of_values(self):
        clerk = Clerk(BLOTS)
        self.assertEqual([type(one) for one in (clerk.page(), clerk.many(), clerk.settled(), len(clerk), str(clerk))],
                         [tuple, int, list, int, str])

    def test_two_beside_one_another(self):
        one, other = Clerk(BLOTS), Clerk(BLOTS)
        one.look(0, 0, "38")
        self.refused(NothingLeft, other.back)
        self.same(other, BLOTS)
        other.add(("1",))
        one.back()
        self.refused(NothingLeft, other.again)
        self.same(one, BLOTS)
        self.same(other, (((BLOT,), (BLOT,), ("1",)), (BLOT, BLOT)))
        one.again()
        self.same(one, ((("38",), (BLOT,)), (BLOT, BLOT)))

    def test_lists_are_the_askers_own(self):
        clerk = Clerk(((("38", "05"), ("5",)), ("48", "0")))
        kept = copy.deepcopy(clerk.settled())
        clerk.settled().clear()
        clerk.settled().append(None)
        self.assertEqual(clerk.settled(), kept)
        empty = Clerk(WITHOUT)
        empty.settled().append(None)
        self.assertEqual(empty.settled(), [])

    def test_nothing_handed_in_is_changed_or_kept(self):
        clerk = Clerk(BLOTS)
        thing = [["1"], ("2", ["3"])]
        self.refused(NoEntry, clerk.add, thing)
        self.refused(NoFigures, clerk.look, 0, 0, thing)
        self.refused(NoSum, Clerk, thing)
        self.assertEqual(thing, [["1"], ("2", ["3"])])
        self.same(clerk, BLOTS)

    def test_the_same_answer_each_time(self):
        clerk = Clerk(MIXED)
        first = clerk.page(), clerk.many(), clerk.settled(), len(clerk), str(clerk)
        Clerk(BLOTS).look(0, 0, "3")
        how_many(BLOTS)
        self.assertEqual((clerk.page(), clerk.many(), clerk.settled(), len(clerk), str(clerk)), first)


if __name__ == "__main__":
    unittest.main()

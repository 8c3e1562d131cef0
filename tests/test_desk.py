"""Promise 18, and 2 as far as it speaks of the desk: all rows, and what is none."""

import inspect
import random
import unittest

import brute
from brute import THINGS
from blotsum.carries import carries
from blotsum.clerks import Clerk
from blotsum.desk import Desk
from blotsum.errors import (AskedError, BlotError, Clash, NoEntry, NoFigures, NoFilling, NoNumber, NoRow, NoSpot,
                            NothingLeft, ToldError, TooFew, TooMany)
from blotsum.slips import mended
from blotsum.sums import filling_at, narrowed
from blotsum.texts import read_sum
from written import SIGNS, is_row

ROWS = ["page 1? + [38] = ?5", "look 0 0 38", "look 2 1 0123456789", "look 0 0 ", "add [38]?", "strike 1", "back",
        "again", "sum", "many", "at 0", "at 17", "at 999999999", "settled", "narrow", "mend", "carries",
        "riddle ab + ba = cc", "riddle a = a"]
SUMS = ["3 = 3", "? + ? = ??", "[38][05] + 5 = [48]0", "19 + 2 = 22", "? = 12", "[12] = 3", "? + ? + ? = 2?", "9 + 9 = ?",
        "?? + ?? = ???", "[05][0123] + [27]9 = ?[68]", "1 + 1 + 1 + 1 + 1 + 1 + 1 + 1 = 8", "0 = 0", "0? = ??"]


def desk_with(text):
    desk = Desk()
    desk.say("page " + text)
    return desk


class WithDesk(unittest.TestCase):
    def refused(self, kind, desk, row):
        """What is refused is so by this class and no other, and the sum stays; the refusal."""
        kept = desk.say("sum")
        with self.assertRaises((BlotError, NoNumber)) as caught:
            desk.say(row)
        self.assertIs(type(caught.exception), kind, row)
        self.assertEqual(desk.say("sum"), kept)
        return caught.exception

    def says(self, desk, *rows):
        for row, right in rows:
            told = desk.say(row)
            self.assertIs(type(told), str)
            self.assertEqual(told, right, row)


class Answers(WithDesk):
    def test_at_first(self):
        self.says(Desk(), ("sum", "? + ? = ??"), ("many", "45"), ("at 0", "1 9 10"), ("at 44", "9 9 18"),
                  ("settled", "2:0:1"), ("narrow", "[123456789] + [123456789] = 1[012345678]"),
                  ("mend", "0 45 1 9 10"), ("carries", "0 0,1 0"))

    def test_a_new_desk_has_done_nothing(self):
        self.refused(NothingLeft, Desk(), "back")
        self.refused(NothingLeft, Desk(), "again")

    def test_deeds(self):
        desk = Desk()
        self.says(desk, ("look 0 0 38", "ok"), ("sum", "[38] + ? = ??"), ("look 2 1 01234", "ok"),
                  ("sum", "[38] + ? = ?[01234]"), ("add 5?", "ok"), ("sum", "[38] + ? + 5? = ?[01234]"),
                  ("strike 1", "ok"), ("sum", "[38] + 5? = ?[01234]"), ("back", "ok"),
                  ("sum", "[38] + ? + 5? = ?[01234]"), ("back", "ok"), ("back", "ok"), ("sum", "[38] + ? = ??"),
                  ("again", "ok"), ("sum", "[38] + ? = ?[01234]"), ("back", "ok"), ("back", "ok"),
                  ("sum", "? + ? = ??"))
        self.refused(NothingLeft, desk, "back")
        self.says(desk, ("again", "ok"), ("again", "ok"), ("again", "ok"), ("again", "ok"),
                  ("sum", "[38] + 5? = ?[01234]"))
        self.refused(NothingLeft, desk, "again")

    def test_page_is_a_new_clerk(self):
        desk = Desk()
        self.says(desk, ("look 0 0 38", "ok"), ("look 0 0 3", "ok"), ("back", "ok"), ("page 1 + ? = [38]", "ok"),
                  ("sum", "1 + ? = [38]"))
        self.refused(NothingLeft, desk, "back")
        self.refused(NothingLeft, desk, "again")
        self.says(desk, ("many", "2"), ("at 0", "1 2 3"), ("at 1", "1 7 8"))

    def test_questions(self):
        for text in SUMS:
            desk = desk_with(text)
            page = read_sum(text)
            self.says(desk, ("sum", text), ("many", str(len(brute.fillings(page)))))
            for number, filling in enumerate(brute.fillings(page)[:30]):
                self.says(desk, (f"at {number}", " ".join(map(str, filling))))
            right = [f"{entry}:{spot}:{figure}" for entry, spot, figure in brute.settled(page)]
            self.says(desk, ("settled", " ".join(right) if right else "none"))
            if brute.fillings(page):
                self.says(desk, ("narrow", brute.sum_text(brute.narrowed(page))))
            else:
                self.refused(NoFilling, desk, "narrow")
            right = brute.mended(page) if len(page[0]) < 8 else mended(page)
            if right is None:
                self.says(desk, ("mend", "none"))
            else:
                self.says(desk, ("mend", " ".join(map(str, (*right[:2], *right[2])))))
            self.says(desk, ("carries", " ".join(",".join(map(str, one)) for one in brute.carries(page))))

    def test_questions_by_hand(self):
        self.says(desk_with("19 + 2 = 22"), ("mend", "1 2 19 2 21"), ("carries", "0  "), ("settled", "none"),
                  ("many", "0"))
        self.says(desk_with("[38][05] + 5 = [48]0"), ("settled", "0:0:3 0:1:5 2:0:4"), ("narrow", "35 + 5 = 40"),
                  ("at 0", "35 5 40"), ("carries", "0 1 0"))
        self.says(desk_with("?? = ?"), ("mend", "none"), ("many", "0"))
        self.says(desk_with("99 + 99 = ???"), ("carries", "0 1 1 0"), ("at 0", "99 99 198"),
                  ("narrow", "99 + 99 = 198"))
        self.says(desk_with("1? + 1 = 3?"), ("carries", "0 0,1 "))

    def test_riddles(self):
        desk = Desk()
        self.says(desk, ("riddle a = b", "none"), ("riddle a + a = a", "one a=0"), ("riddle a + b = a", "more a=1 b=0"),
                  ("riddle ba + a = cd", "more a=5 b=1 c=2 d=0"), ("riddle aa + aa = aa", "none"),
                  ("riddle a = a", "more a=0"))
        self.says(desk, ("sum", "? + ? = ??"))
        chance = random.Random(181)
        for _ in range(150):
            riddle = brute.some_riddle(chance, "abc", most_letters=4)
            found = brute.solutions(riddle)
            right = ["none", "one", "more"][min(2, len(found))]
            right += "".join(f" {letter}={figure}" for letter, figure in (found[0] if found else ()))
            text = " + ".join(riddle[0]) + " = " + riddle[1]
            self.says(desk, ("riddle " + text, right))

    def test_like_a_clerk(self):
        chance = random.Random(182)
        for _ in range(25):
            page = brute.some_page(chance, 3, 3, 5)
            desk, clerk = desk_with(brute.sum_text(page)), Clerk(page)
            for _ in range(30):
                name, told, row = self.some_deed(chance)
                try:
                    getattr(clerk, name)(*told)
                    right = None
                except ToldError as error:
                    right = type(error)
                if right is None:
                    self.says(desk, (row, "ok"))
                else:
                    self.refused(right, desk, row)
                self.says(desk, ("sum", str(clerk)), ("many", str(clerk.many())))

    def some_deed(self, chance):
        name = chance.choice(["look", "look", "look", "add", "strike", "back", "again"])
        if name == "look":
            told = chance.randrange(4), chance.randrange(3), chance.choice([brute.some_spot(chance), "", "?", "31"])
        elif name == "add":
            entry = brute.some_entry(chance, 3)
            return name, (entry,), "add " + brute.entry_text(entry)
        else:
            told = (chance.randrange(4),) if name == "strike" else ()
        return name, told, " ".join([name, *map(str, told)])


class Refused(WithDesk):
    def test_no_row(self):
        for row in ("", " ", "\n", "x", "Sum", "SUM", "sum ", " sum", "sum\n", "\nsum", "sum sum", "sum 0", "su", "sums",
                    "many ", "many 1", "back 1", "back ", "again ", "settled ", "narrow ", "mend ", "carries ", "carries 0",
                    "page", "page ", "page  ? = ?", "page ? = ? ", "page ? =  ?", "page ?", "page ?=?", "page [3] = 3",
                    "page ? = ?\n? = ?", "page ? = ?\n", " page ? = ?", "page\n? = ?", "page [0123456789] = ?",
                    "page 1 + 1 + 1 + 1 + 1 + 1 + 1 + 1 + 1 = 9", "page 1111111111111 = 1", "page a = a",
                    "look", "look ", "look 0", "look 0 0", "look 0 0 3 8", "look 0 0 3 ", "look 0 0  3", "look  0 0 3",
                    "look 0  3", "look 0 x 3", "look x 0 3", "look 00 0 3", "look 0 00 3", "look 01 0 3", "look 0 01 3",
                    "look -1 0 3", "look +1 0 3", "look 0 -1 3", "look 1234567890 0 3", "look 0 1234567890 3", "look 0,0,3",
                    " look 0 0 3", "look 0\n0 3", "look 0 0\n3", "look ? 0 3", "look  0 3", "look 0 1_0 3"):
            self.refused(NoRow, Desk(), row)
        for row in ("add", "add ", "add  ?", "add ? ", "add ? ?", "add [3]", "add [83]", "add [0123456789]", "add x", "add\n?",
                    "add ?\n", "add ?????????????", "add ? + ?", "strike", "strike ", "strike  0", "strike 0 ", "strike 00",
                    "strike 01", "strike -1", "strike 0 0", "strike x", "strike 1234567890", "strike 0\n", "strike \n0",
                    "at", "at ", "at  0", "at 0 ", "at 00", "at 07", "at -1", "at +0", "at 0 1", "at x", "at 1234567890",
                    "at 0000000000", "at 1.0", "at 0\n", "at 1e3", "at ?", "riddle", "riddle ", "riddle a", "riddle a = ",
                    "riddle  a = a", "riddle a = a ", "riddle a=a", "riddle A = A", "riddle 1 = 1", "riddle send + more = money",
                    "riddle a + a + a + a + a = b", "riddle aaaaaaaaa = a", "riddle a = a\n", "riddle a =  a",
                    "pages 1 = 1", "shares", "read ?", "none", "ok", "number 0"):
            self.refused(NoRow, Desk(), row)

    def test_of_anything(self):
        desk = Desk()
        for thing in [*THINGS, b"sum", ["sum"], ("sum",), [["sum"]], "x" * 2000, " " * 2000, "sum" * 600]:
            error = self.refused(NoRow, desk, thing)
            self.assertIsInstance(error, ToldError)

    def test_numbers(self):
        desk = desk_with("?????????? = ??????????")
        self.says(desk, ("at 0", "1000000000 1000000000"), ("at 999999999", "1999999999 1999999999"),
                  ("at 100000000", "1100000000 1100000000"))
        self.refused(NoRow, desk, "at 1000000000")
        self.refused(NoSpot, desk, "look 999999999 0 3")
        self.refused(NoSpot, desk, "look 0 999999999 3")
        self.refused(NoSpot, desk, "strike 999999999")
        self.says(desk, ("look 0 9 5", "ok"), ("look 1 0 1", "ok"))

    def test_figures_are_any_text_without_blanks(self):
        desk = Desk()
        for figures in ("", "83", "33", "x", "?", "[38]", "3\n8", "\n", "3,8", "~", "+", "=", "01234567890"):
            self.refused(NoFigures, desk, "look 0 0 " + figures)
        self.says(desk, ("look 0 0 0123456789", "ok"))

    def test_the_clerk_refuses(self):
        error = self.refused(NoSpot, Desk(), "look 3 0 3")
        self.assertEqual((error.entry, error.spot), (3, 0))
        error = self.refused(NoSpot, Desk(), "look 2 2 3")
        self.assertEqual((error.entry, error.spot), (2, 2))
        error = self.refused(NoSpot, Desk(), "strike 2")
        self.assertEqual((error.entry, error.spot), (2, None))
        error = self.refused(Clash, Desk(), "look 2 0 23")
        self.assertEqual((error.entry, error.spot), (2, 0))
        self.refused(TooFew, desk_with("? = ?"), "strike 0")
        self.refused(TooMany, desk_with(" + ".join("?" * 8) + " = ??"), "add ?")

    def test_the_function_refuses(self):
        error = self.refused(NoNumber, Desk(), "at 45")
        self.assertEqual((error.number, error.among), (45, 45))
        self.assertNotIsInstance(error, BlotError)
        error = self.refused(NoNumber, desk_with("1 = 2"), "at 0")
        self.assertEqual((error.number, error.among), (0, 0))
        self.assertIsInstance(self.refused(NoFilling, desk_with("1 = 2"), "narrow"), AskedError)

    def test_what_makes_no_row_goes_first(self):
        full = " + ".join("?" * 8) + " = ??"
        self.refused(NoRow, desk_with(full), "add [3]")
        self.refused(NoRow, desk_with("? = ?"), "strike 00")
        self.refused(NoRow, Desk(), "look 9 9 3 3")
        self.refused(NoRow, Desk(), "look 9 09 ")
        self.refused(NoRow, Desk(), "back 0")
        self.refused(NoRow, desk_with("1 = 2"), "narrow ")
        self.refused(NoRow, desk_with("1 = 2"), "at 00")
        self.refused(NoSpot, Desk(), "look 9 9 ")
        self.refused(NoFigures, desk_with("1 = 2"), "look 0 0 ")

    def test_no_refusal_of_an_entry_or_a_text_comes_through(self):
        # What would be refused so by the clerk or by a text makes no row.
        for row in ("add ", "add 1 2", "page 1", "riddle a"):
            with self.assertRaises(NoRow) as caught:
                Desk().say(row)
            self.assertNotIsInstance(caught.exception, NoEntry)

    def test_one_sign_otherwise(self):
        chance = random.Random(183)
        seen = {True: 0, False: 0}
        for row in ROWS:
            self.assertIs(is_row(row), True, row)
            for _ in range(150):
                at = chance.randrange(len(row))
                sign = chance.choice([*SIGNS, *"0123456789[]?+= ab\n" * 3])
                for text in (row[:at] + sign + row[at + 1:], row[:at] + row[at + 1:], row[:at] + sign + row[at:]):
                    seen[is_row(text)] += 1
                    desk = Desk()
                    if not is_row(text):
                        self.refused(NoRow, desk, text)
                        continue
                    try:
                        self.assertIs(type(desk.say(text)), str)
                    except (BlotError, NoNumber) as error:
                        self.assertNotIsInstance(error, NoRow, text)
        self.assertGreater(min(seen.values()), 500)

    def test_what_is_refused_is_no_deed(self):
        desk = Desk()
        self.says(desk, ("look 0 0 38", "ok"), ("back", "ok"))
        for row in ("", "back 1", "page ?", "look 0 0 ", "look 0 0 83", "look 5 0 3", "look 2 0 3", "strike 7", "add [3]",
                    "at 99", "riddle a", None, ["again"]):
            self.assertRaises((BlotError, NoNumber), desk.say, row)
        for row in ("sum", "many", "at 3", "settled", "narrow", "mend", "carries", "riddle a = a"):
            desk.say(row)
        self.says(desk, ("again", "ok"), ("sum", "[38] + ? = ??"), ("back", "ok"), ("sum", "? + ? = ??"))
        self.refused(NothingLeft, desk, "back")


class Manners(WithDesk):
    def test_the_class(self):
        self.assertEqual(str(inspect.signature(Desk)), "()")
        self.assertEqual(str(inspect.signature(vars(Desk)["say"])), "(self, row)")
        self.assertEqual(Desk().say(row="sum"), "? + ? = ??")

    def test_two_beside_one_another(self):
        one, other = Desk(), Desk()
        self.says(one, ("look 0 0 38", "ok"), ("add 5", "ok"), ("back", "ok"))
        self.refused(NothingLeft, other, "back")
        self.refused(NothingLeft, other, "again")
        self.says(other, ("sum", "? + ? = ??"), ("page 1 = 1", "ok"))
        self.says(one, ("sum", "[38] + ? = ??"), ("again", "ok"), ("sum", "[38] + ? + 5 = ??"))
        self.says(other, ("sum", "1 = 1"))
        self.says(Desk(), ("sum", "? + ? = ??"))

    def test_the_same_answer_each_time(self):
        desk = desk_with("[38]? + [05]5 = [19]?")
        rows = ["sum", "many", "at 3", "settled", "narrow", "mend", "carries", "riddle ab + ba = cc"]
        first = [desk.say(row) for row in rows]
        Desk().say("look 0 0 3")
        self.refused(NoRow, desk, "many 1")
        self.assertEqual([desk.say(row) for row in rows[::-1]], first[::-1])

    def test_the_functions_say_the_same(self):
        for page in brute.some_pages(184, 60, most_spots=5, most_figures=6):
            desk = desk_with(brute.sum_text(page))
            self.says(desk, ("carries", " ".join(",".join(map(str, one)) for one in carries(page))))
            if desk.say("many") != "0":
                number = (int(desk.say("many")) - 1) // 2
                self.says(desk, (f"at {number}", " ".join(map(str, filling_at(page, number)))),
                          ("narrow", brute.sum_text(narrowed(page))))


if __name__ == "__main__":
    unittest.main()

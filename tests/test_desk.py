"""Point 20: the desk and the lines that are said at it."""

import random
import unittest

from pikeroll.accounts import balances, owes
from pikeroll.coin import stub
from pikeroll.desk import Desk
from pikeroll.errors import PikeError
from pikeroll.pages import fact_text, page_of, read_page
from pikeroll.roll import Roll
from pikeroll.walk import row_of, why

FIGURES = "9" * 30
# Gate 1 clears gate 2, which asks 3 pence; carriage 5 passes four times, carriage 6 once.
LINES = ["toll 2 0 6", "toll 1 0 3", "board 1 0 2", "trust 2 0 3", "pass 0 600 1 5 2", "pass 0 660 2 5 1",
         "pass 0 700 2 5 4", "pass 0 710 7 5 1", "folk 6 0 9", "pass 0 30 2 6 1"]


def desk_of(*lines):
    desk = Desk()
    for line in lines:
        desk.say(line)
    return desk


class DeskCase(unittest.TestCase):
    def assert_says(self, desk, line, answer):
        with self.subTest(line):
            self.assertEqual(desk.say(line), answer)

    def assert_asked(self, desk, line, answer):
        """Answered so, and nothing is changed."""
        before = desk.roll()
        self.assert_says(desk, line, answer)
        after = desk.roll()
        self.assertEqual((after.facts(), after.told(), after.deeds()),
                         (before.facts(), before.told(), before.deeds()))


class Told(DeskCase):
    def test_facts_by_their_numbers(self):
        desk = Desk()
        for number, line in enumerate(LINES, start=1):
            self.assert_says(desk, line, str(number))
        for line in ("bargain 1 2 3 4", "lost 5 700", "paid 5 0 10", "board 7 0", "board 7 0 0 1 2 3 4 5 6 7"):
            number += 1
            self.assert_says(desk, line, str(number))
        self.assertEqual(desk.roll().facts()[2], (3, ("board", 1, 0, (2,))))
        self.assertEqual(desk.roll().facts()[-2:], [(14, ("board", 7, 0, ())),
                                                    (15, ("board", 7, 0, (0, 1, 2, 3, 4, 5, 6, 7)))])

    def test_done(self):
        desk = desk_of(*LINES)
        self.assert_says(desk, "right 1 toll 2 0 8", "done")
        self.assert_says(desk, "right 3 board 1 0", "done")
        self.assert_says(desk, "strike 10", "done")
        self.assertEqual(desk.roll().facts()[0], (1, ("toll", 2, 0, 8)))
        self.assertEqual((desk.roll().told(), len(desk.roll())), (10, 9))
        self.assert_says(desk, "undo", "done")
        self.assertEqual(len(desk.roll()), 10)
        self.assert_says(desk, "undo", "done")
        self.assertEqual(desk.roll().facts()[2], (3, ("board", 1, 0, (2,))))
        self.assert_says(desk, "redo", "done")
        self.assert_says(desk, "redo", "done")
        self.assertEqual((desk.roll().told(), len(desk.roll()), desk.roll().deeds()), (10, 9, 13))
        self.assert_says(desk, "pass 1 0 0 0 1", "11")

    def test_numbers_of_thirty_figures(self):
        self.assert_says(Desk(), f"lost {FIGURES} 0", "1")


class Asked(DeskCase):
    def setUp(self):
        self.desk = desk_of(*LINES)

    def test_rows(self):
        self.assert_asked(self.desk, "row 5", "owed - 3d")
        self.assert_asked(self.desk, "row 6", "ticket 005 0d")
        self.assert_asked(self.desk, "row 7", "owed - 12d")
        self.assert_asked(self.desk, "row 8", "owed - 0d")
        self.assert_asked(self.desk, "row 10", "folk - 0d")
        self.desk.say("bargain 2 5 0 0")
        self.assert_asked(self.desk, "row 7", "bargain - 0d")

    def test_halves_and_stubs(self):
        desk = desk_of("toll 1 0 3", "toll 2 0 1", "pass 0 9 2 0 1", *["paid 9 9 9"] * 8, "pass 0 1 1 0 1",
                       "pass 0 2 1 0 1")
        self.assert_asked(desk, "row 3", "owed - 1/2d")
        self.assert_asked(desk, "row 12", "owed - 1 1/2d")
        self.assert_asked(desk, "row 13", "ticket 010 0d")
        desk.say("strike 12")
        self.assert_asked(desk, "row 13", "owed - 1 1/2d")
        self.assert_asked(desk, "row 12", "no: NoPassing")

    def test_why(self):
        self.assert_asked(self.desk, "why 5", "none")
        self.assert_asked(self.desk, "why 6", "none")
        self.assert_asked(self.desk, "why 7", "005 horses")
        self.assert_asked(self.desk, "why 8", "005 board, 007 board")
        self.assert_asked(self.desk, "why 10", "none")
        self.desk.say("lost 5 660")
        self.assert_asked(self.desk, "why 6", "005 lost")
        self.assert_asked(self.desk, "why 7", "005 horses, 006 horses")

    def test_owes(self):
        self.assert_asked(self.desk, "owes 5 0", "15d")
        self.assert_asked(self.desk, "owes 6 999", "0d")
        self.assert_asked(self.desk, "owes 0 0", "0d")
        self.desk.say("paid 5 3 37")
        self.assert_asked(self.desk, "owes 5 2", "15d")
        self.assert_asked(self.desk, "owes 5 3", "-3 1/2d")

    def test_trusts(self):
        self.assert_asked(self.desk, "trusts 0", "-1d, 0d, 0d, 1d")
        self.assert_asked(Desk(), "trusts 999", "0d, 0d, 0d, 0d")
        self.desk.say("trust 2 0 1")
        self.assert_asked(self.desk, "trusts 0", "-1d, 1d, 0d, 0d")


class Refused(DeskCase):
    def test_facts(self):
        desk = desk_of(*LINES)
        for line in ("toll 8 0 0", "toll 0 1000 0", "toll 0 0 49", "board 0 0 1 0", "board 0 0 1 1", "board 0 0 8",
                     "board 0 0 0 1 2 3 4 5 6 7 8", "trust 0 0 4", "folk 10 0 0", "bargain 0 10 0 0", "pass 0 1440 0 0 1",
                     "pass 0 0 0 0 0", "pass 0 0 0 0 9", "lost 0 0", f"paid 0 0 {FIGURES}", f"toll {FIGURES} 0 0"):
            self.assert_asked(desk, line, "no: BadFact")
        self.assert_asked(desk, "right 1 toll 8 0 0", "no: BadFact")
        self.assert_asked(desk, "right 1 board 8 0", "no: BadFact")

    def test_full(self):
        desk = desk_of(*["paid 0 0 1"] * 119)
        self.assert_says(desk, "paid 0 0 1", "120")
        self.assert_asked(desk, "paid 0 0 1", "no: Full")
        self.assert_asked(desk, "paid 10 0 1", "no: BadFact")
        self.assert_says(desk, "strike 120", "done")
        self.assert_asked(desk, "paid 0 0 1", "no: Full")
        self.assert_says(desk, "undo", "done")
        self.assert_says(desk, "undo", "done")
        self.assert_says(desk, "paid 0 0 1", "120")

    def test_no_fact(self):
        desk = desk_of(*LINES)
        desk.say("strike 4")
        for number in ("0", "4", "11", "121", FIGURES):
            self.assert_asked(desk, f"strike {number}", "no: NoFact")
            self.assert_asked(desk, f"right {number} toll 2 0 6", "no: NoFact")
            self.assert_asked(desk, f"right {number} toll 8 0 6", "no: NoFact")

    def test_other(self):
        desk = desk_of(*LINES)
        self.assert_asked(desk, "right 1 board 2 0", "no: Other")
        self.assert_asked(desk, "right 5 paid 0 0 0", "no: Other")

    def test_nothing(self):
        desk = Desk()
        self.assert_asked(desk, "undo", "no: Nothing")
        self.assert_asked(desk, "redo", "no: Nothing")
        desk.say("toll 2 0 6")
        self.assert_asked(desk, "redo", "no: Nothing")
        self.assert_says(desk, "undo", "done")
        self.assert_asked(desk, "undo", "no: Nothing")
        self.assert_says(desk, "redo", "done")
        self.assert_asked(desk, "redo", "no: Nothing")
        desk.say("undo")
        desk.say("lost 1 1")
        self.assert_asked(desk, "redo", "no: Nothing")

    def test_asked_of_what_is_not_there(self):
        desk = desk_of(*LINES)
        for number in ("0", "1", "3", "11", FIGURES):
            self.assert_asked(desk, f"row {number}", "no: NoPassing")
            self.assert_asked(desk, f"why {number}", "no: NoPassing")
        self.assert_asked(desk, "owes 10 0", "no: NoCarriage")
        self.assert_asked(desk, "owes 10 1000", "no: NoCarriage")
        self.assert_asked(desk, "owes 9 1000", "no: BadDay")
        self.assert_asked(desk, f"owes 9 {FIGURES}", "no: BadDay")
        self.assert_asked(desk, "trusts 1000", "no: BadDay")

    def test_what_is_refused_leaves_what_can_be_done_again(self):
        desk = desk_of(*LINES)
        desk.say("undo")
        for line in ("toll 8 0 0", "strike 99", "right 1 lost 1 1", "row 99", "trusts 1000", "nonsense", "undo 1"):
            desk.say(line)
        self.assert_says(desk, "redo", "done")
        self.assertEqual(desk.roll(), desk_of(*LINES).roll())


class NoLine(DeskCase):
    def setUp(self):
        self.desk = desk_of(*LINES)

    def assert_no_lines(self, *lines):
        for line in lines:
            self.assert_asked(self.desk, line, "no line")

    def test_empty_and_blank(self):
        self.assert_no_lines("", " ", "  ", "\n", "\t")

    def test_blanks(self):
        for line in ("undo", "redo", "strike 1", "row 5", "why 5", "owes 5 0", "trusts 0", "toll 2 0 6", "board 1 0",
                     "board 1 0 2", "right 1 toll 2 0 6", "right 3 board 1 0"):
            self.assert_no_lines(f" {line}", f"{line} ", f"{line}\n", f"\n{line}", f"{line}\t")
            if " " in line:
                self.assert_no_lines(line.replace(" ", "  "), line.replace(" ", "  ", 1), line.replace(" ", "\t"),
                                     line.replace(" ", ""), line.replace(" ", "\n", 1))

    def test_words(self):
        for line in ("UNDO", "Undo", "Strike 1", "ROW 5", "Why 5", "OWES 5 0", "Trusts 0", "TOLL 2 0 6", "Board 1 0",
                     "RIGHT 1 toll 2 0 6", "right 1 Toll 2 0 6", "done", "no", "tell toll 2 0 6", "facts", "known 0",
                     "5", "1 toll 2 0 6", "undo undo", "unde", "strike1"):
            self.assert_no_lines(line)

    def test_numbers_too_many_or_too_few(self):
        for line in ("undo 1", "redo 1", "undo 0", "strike", "strike 1 2", "row", "row 5 6", "why", "why 5 6", "owes",
                     "owes 5", "owes 5 0 0", "trusts", "trusts 0 0", "toll", "toll 2 0", "toll 2 0 6 1", "board",
                     "board 1", "trust 0 0", "folk 0 0", "folk 0 0 0 0", "bargain 0 0 0", "pass 0 0 0 0",
                     "pass 0 0 0 0 1 1", "lost 1", "lost 1 0 0", "paid 0 0", "paid 0 0 0 0"):
            self.assert_no_lines(line)
            self.assert_no_lines(f"right 1 {line}")
        self.assert_no_lines("right", "right 1", "right toll 2 0 6", "right 1 1 toll 2 0 6", "right 1 2 0 6",
                             "right 99 toll 2 0", "right 1 undo", "right 1 strike 1", "right 1 right 1 toll 2 0 6")

    def test_numbers_that_are_none(self):
        for number in ("01", "00", "-1", "+1", "1.0", "1_0", "a", "00b", "x1", "\u0661", "\u00b2", "\uff11", "1%",
                       "9" * 31, "1" + "0" * 30, "9" * 6000, "True", "None"):
            for line in ("strike {}", "row {}", "why {}", "owes {} 0", "owes 5 {}", "trusts {}", "toll {} 0 6",
                         "toll 2 0 {}", "board 1 0 {}", "board 1 0 2 {}", "lost {} 0", "right {} toll 2 0 6",
                         "right 1 toll 2 0 {}", "undo {}"):
                self.assert_no_lines(line.format(number))

    def test_form_goes_ahead_of_refusals(self):
        self.assert_no_lines("right 99 toll 9 9", "toll 9 9", "owes 99", "strike 99 99", "toll 9 9 99 x")
        for _ in LINES:
            self.desk.say("undo")
        self.assert_no_lines("undo 1", "undo ")


class Rolls(DeskCase):
    def test_a_new_one(self):
        for desk in (Desk(), Desk(None), Desk(roll=None)):
            self.assertIs(type(desk.roll()), Roll)
            self.assertEqual((desk.roll().facts(), desk.roll().deeds()), ([], 0))
            self.assert_says(desk, "toll 2 0 6", "1")
        self.assertEqual(Desk().roll(), Roll())

    def test_a_twin_of_a_roll(self):
        roll = read_page("1 toll 2 0 6\n2 lost 1 1\n")
        roll.undo()
        desk = Desk(roll)
        self.assert_says(desk, "redo", "done")
        self.assertEqual((len(roll), len(desk.roll())), (1, 2))
        roll.redo()
        roll.tell(("paid", 0, 0, 0))
        self.assertEqual(len(desk.roll()), 2)
        self.assert_says(desk, "paid 0 0 5", "3")
        self.assertEqual(roll.facts()[2], (3, ("paid", 0, 0, 0)))

    def test_a_roll_that_is_as_false(self):
        roll = read_page("1 toll 2 0 6\n")
        roll.strike(1)
        desk = Desk(roll)
        self.assert_says(desk, "lost 1 1", "2")
        self.assert_says(desk, "undo", "done")
        self.assert_says(desk, "undo", "done")
        self.assertEqual(desk.roll().facts(), [(1, ("toll", 2, 0, 6))])
        undone = read_page("1 toll 2 0 6\n")
        undone.undo()
        self.assert_says(Desk(roll=undone), "redo", "done")

    def test_told_rolls_are_twins(self):
        desk = desk_of(*LINES)
        desk.say("undo")
        told = desk.roll()
        told.redo()
        told.strike(1)
        self.assertEqual(len(desk.roll()), len(LINES) - 1)
        self.assertIsNot(desk.roll(), desk.roll())
        before = told.facts()
        desk.say("strike 2")
        self.assertEqual(told.facts(), before)

    def test_desks_made_apart(self):
        one, other = Desk(), Desk()
        one.say("toll 2 0 6")
        self.assert_says(other, "undo", "no: Nothing")
        roll = one.roll()
        third, fourth = Desk(roll), Desk(roll)
        third.say("undo")
        self.assert_says(fourth, "strike 1", "done")

    def test_by_name(self):
        self.assertEqual(Desk(roll=Roll()).say(line="toll 2 0 6"), "1")


class MadeLines(unittest.TestCase):
    """Many lines, against the roll and what it is asked by."""

    def test_against_the_roll(self):
        words = set()
        for seed in range(40):
            dice = random.Random(seed)
            desk, roll = Desk(), Roll()
            for _ in range(60):
                line, action = self.made_line(dice)
                try:
                    expected = action(roll)
                except (PikeError, KeyError) as refusal:
                    expected = f"no: {type(refusal).__name__}"
                self.assertEqual(desk.say(line), expected)
                self.assertEqual(desk.roll(), roll)
                words.add(expected.split(" ")[-1] if expected.startswith("no") else line.split(" ")[0])
            self.assertEqual(page_of(desk.roll()), page_of(roll))
        self.assertLessEqual({"pass", "right", "strike", "undo", "redo", "row", "why", "owes", "trusts", "BadFact",
                              "NoFact", "Other", "Nothing", "NoPassing"}, words)

    def made_line(self, dice):
        fact = dice.choice([
            ("toll", dice.randrange(3), 0, dice.randrange(50)), ("board", dice.randrange(3), 0, (0, 2)),
            ("trust", dice.randrange(3), 0, dice.randrange(4)), ("lost", dice.randrange(9), dice.randrange(9)),
            ("paid", 0, 0, dice.randrange(9)), *[("pass", 0, dice.randrange(9), dice.randrange(3), 0,
                                                  dice.randrange(1, 4)) for _ in range(6)],
        ])
        number, day = dice.randrange(14), dice.choice([0, 999, 999, 1000])
        return dice.choice([
            (fact_text(fact), lambda roll: str(roll.tell(fact))),
            (fact_text(fact), lambda roll: str(roll.tell(fact))),
            (f"right {number} {fact_text(fact)}", lambda roll: roll.right(number, fact) and "done"),
            (f"strike {number}", lambda roll: roll.strike(number) and "done"),
            ("undo", lambda roll: roll.undo() or "done"),
            ("redo", lambda roll: roll.redo() or "done"),
            (f"row {number}", lambda roll: self.row_text(row_of(roll.facts(), number))),
            (f"why {number}", lambda roll: ", ".join(
                f"{stub(ticket)} {word}" for ticket, word in why(roll.facts(), number)) or "none"),
            (f"owes 0 {day}", lambda roll: str(owes(roll.facts(), 0, day))),
            (f"trusts {day}", lambda roll: "{}, {}, {}, {}".format(*balances(roll.facts(), day))),
        ])

    def row_text(self, row):
        halves = row[3]
        half = "1/2" if halves % 2 else ""
        pence = str(halves // 2) if halves != 1 else ""
        return f"{row[1]} {'-' if row[2] is None else stub(row[2])} {pence}{' ' if pence and half else ''}{half}d"


if __name__ == "__main__":
    unittest.main()

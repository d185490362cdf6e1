"""Point 19: facts and rolls written as texts, and pages read again."""

import random
import unittest

from pikeroll.errors import BadPage, NoFact, Nothing, PikeError
from pikeroll.pages import fact_text, page_of, read_page
from pikeroll.roll import Roll

FIGURES = "9" * 30
TEXTS = {
    ("toll", 2, 0, 6): "toll 2 0 6",
    ("toll", 7, 999, 48): "toll 7 999 48",
    ("board", 2, 0, (1, 4)): "board 2 0 1 4",
    ("board", 0, 10, ()): "board 0 10",
    ("board", 3, 5, (0,)): "board 3 5 0",
    ("board", 3, 5, (0, 1, 2, 3, 4, 5, 6, 7)): "board 3 5 0 1 2 3 4 5 6 7",
    ("trust", 1, 2, 3): "trust 1 2 3",
    ("folk", 9, 30, 20): "folk 9 30 20",
    ("bargain", 0, 1, 2, 3): "bargain 0 1 2 3",
    ("pass", 12, 1439, 7, 9, 8): "pass 12 1439 7 9 8",
    ("lost", 1, 0): "lost 1 0",
    ("lost", int(FIGURES), 0): f"lost {FIGURES} 0",
    ("paid", 5, 0, 100000): "paid 5 0 100000",
}
ROWS = [f"{number} {text}" for number, text in enumerate(TEXTS.values(), start=1)]
PAGE = "".join(f"{row}\n" for row in ROWS)


def roll_of(*told):
    roll = Roll()
    for fact in told:
        roll.tell(fact)
    return roll


def page_of_rows(rows):
    return "".join(f"{row}\n" for row in rows)


class Written(unittest.TestCase):
    def test_facts(self):
        for fact, text in TEXTS.items():
            self.assertEqual(fact_text(fact), text)
        self.assertEqual(fact_text(fact=("toll", 0, 0, 0)), "toll 0 0 0")

    def test_as_the_document_writes_it(self):
        roll = roll_of(("toll", 0, 0, 1), ("toll", 0, 0, 2), ("board", 2, 0, (1, 4)))
        self.assertEqual(page_of(roll).split("\n")[2], "3 board 2 0 1 4")

    def test_pages(self):
        self.assertEqual(page_of(roll_of(*TEXTS)), PAGE)
        self.assertEqual(page_of(Roll()), "")
        self.assertEqual(page_of(roll=roll_of(("lost", 1, 0))), "1 lost 1 0\n")

    def test_struck_facts_are_left_out(self):
        roll = roll_of(("toll", 0, 0, 1), ("lost", 4, 5), ("paid", 0, 0, 3))
        roll.strike(2)
        self.assertEqual(page_of(roll), "1 toll 0 0 1\n3 paid 0 0 3\n")
        roll.strike(1)
        roll.strike(3)
        self.assertEqual(page_of(roll), "")

    def test_asking_changes_nothing(self):
        roll = roll_of(*TEXTS)
        roll.undo()
        page_of(roll)
        self.assertEqual((roll.deeds(), roll.told()), (len(TEXTS) - 1, len(TEXTS) - 1))
        roll.redo()


class Read(unittest.TestCase):
    def test_the_empty_page(self):
        roll = read_page("")
        self.assertIs(type(roll), Roll)
        self.assertEqual((roll.facts(), roll.told(), roll.deeds()), ([], 0, 0))

    def test_all_facts(self):
        roll = read_page(PAGE)
        self.assertEqual(roll.facts(), list(enumerate(TEXTS, start=1)))
        self.assertEqual(roll, roll_of(*TEXTS))
        self.assertEqual(page_of(roll), PAGE)
        self.assertEqual(read_page(text=PAGE), roll)

    def test_kinds(self):
        for _, fact in read_page(PAGE).facts():
            self.assertIs(type(fact), tuple)
            self.assertEqual({type(thing) for thing in fact} - {str, int, tuple}, set())

    def test_the_roll_was_told_these_facts(self):
        roll = read_page("1 toll 2 0 6\n2 lost 3 4\n")
        self.assertEqual((roll.told(), roll.deeds()), (2, 2))
        with self.assertRaises(Nothing):
            roll.redo()
        roll.undo()
        self.assertEqual(roll.facts(), [(1, ("toll", 2, 0, 6))])
        self.assertEqual(roll.tell(("lost", 1, 1)), 2)

    def test_pages_read_apart(self):
        one, other = read_page(PAGE), read_page(PAGE)
        one.strike(1)
        self.assertEqual(other.facts()[0][0], 1)

    def test_a_hundred_and_twenty_rows(self):
        rows = [f"{number} paid 0 0 {number}" for number in range(1, 121)]
        roll = read_page(page_of_rows(rows))
        self.assertEqual((len(roll), roll.facts()[-1]), (120, (120, ("paid", 0, 0, 120))))
        self.assertEqual(page_of(roll), page_of_rows(rows))

    def test_struck_at_the_end(self):
        roll = roll_of(*TEXTS)
        roll.strike(len(TEXTS))
        again = read_page(page_of(roll))
        self.assertEqual(again, roll)
        self.assertEqual((again.told(), roll.told()), (len(TEXTS) - 1, len(TEXTS)))


class Refused(unittest.TestCase):
    def assert_wrong(self, text, row):
        with self.subTest(text=text):
            with self.assertRaises(BadPage) as caught:
                read_page(text)
            self.assertEqual(caught.exception.row, row)
            self.assertIsInstance(caught.exception, PikeError)

    def assert_wrong_row(self, text):
        """A row that is wrong as the first one, as a later one and ahead of another wrong one."""
        self.assert_wrong(f"1 {text}\n", 0)
        self.assert_wrong(f"1 lost 1 0\n2 {text}\n3 lost 1 0\n", 1)
        self.assert_wrong(f"1 lost 1 0\n2 {text}\nx\n", 1)
        self.assert_wrong(f"1 lost 1 0\n2 lost 1 0\n3 {text}\nx", 2)

    def test_no_line_feed_behind_the_last_row(self):
        self.assert_wrong("1 toll 2 0 6", 0)
        self.assert_wrong("1 toll 2 0 6\n2 lost 1 0", 1)
        self.assert_wrong(PAGE[:-1], len(TEXTS) - 1)
        self.assert_wrong(f"{PAGE} ", len(TEXTS))
        self.assert_wrong("x", 0)
        self.assert_wrong(" ", 0)

    def test_the_first_wrong_row_goes(self):
        self.assert_wrong("1 toll 9 0 6\n2 lost 1 0", 0)
        self.assert_wrong("1 toll 2 0 6\nx\n1 toll 2 0 6\n", 1)
        self.assert_wrong("1 toll 2 0 6\n\nx", 1)

    def test_empty_rows(self):
        self.assert_wrong("\n", 0)
        self.assert_wrong("\n1 lost 1 0\n", 0)
        self.assert_wrong("1 lost 1 0\n\n", 1)
        self.assert_wrong("1 lost 1 0\n\n2 lost 1 0\n", 1)

    def test_blanks(self):
        for row in ("1  lost 1 0", "1 lost  1 0", "1 lost 1  0", " 1 lost 1 0", "1 lost 1 0 ", "1 ", " ",
                    "1 board 2 0 ", "1 board 2 0  1", "1lost 1 0", "1 lost1 0"):
            self.assert_wrong(f"{row}\n", 0)

    def test_needless_noughts(self):
        self.assert_wrong("01 lost 1 0\n", 0)
        for text in ("lost 01 0", "lost 1 00", "toll 2 0 06", "toll 02 0 6", "board 2 0 01", "board 2 0 1 04",
                     "pass 00 0 0 0 1", f"lost {'0' * 29}1 0"):
            self.assert_wrong_row(text)

    def test_signs(self):
        for text in ("lost +1 0", "lost -1 0", "lost 1 -0", "paid 0 0 1.0", "paid 0 0 1_0", "lost 1,0 0", "lost 0x1 0",
                     "lost 1\t0", "lost\t1 0", "lost 1 0\r", "lost 1\x0b0", "lost 1\u00a00", "lost \u0661 0", "lost \u00b2 0",
                     "lost 1 \uff10", "paid 0 0 1%", "lost 1 0\x00", "l\u00f6st 1 0", "lost 1 a", "lost one 0",
                     "toll 2 0 ~", "lost 1 0\u2028"):
            self.assert_wrong_row(text)
        for break_sign in ("\r", "\x0b", "\x0c", "\x1c", "\x85", "\u2028"):
            self.assert_wrong(f"1 lost 1 0{break_sign}2 lost 1 0\n", 0)

    def test_figures(self):
        self.assertEqual(read_page(f"1 lost {FIGURES} 0\n").facts(), [(1, ("lost", int(FIGURES), 0))])
        self.assert_wrong_row(f"lost 1{'0' * 30} 0")
        self.assert_wrong_row(f"lost {FIGURES}9 0")
        self.assert_wrong_row(f"paid 0 0 {'9' * 6000}")
        self.assert_wrong(f"{'9' * 6000} lost 1 0\n", 0)
        self.assert_wrong(f"1{'0' * 30} lost 1 0\n", 0)

    def test_first_texts(self):
        for text in ("Toll 2 0 6", "TOLL 2 0 6", "tolls 2 0 6", "fly 1 2", "gates 1 2 3", "right 1 toll 2 0 6", "undo",
                     "strike 1", "2 0 6", "toll", "", "none"):
            self.assert_wrong_row(text)

    def test_counts(self):
        for text in TEXTS.values():
            if not text.startswith("board"):
                self.assert_wrong_row(text + " 1")
                self.assert_wrong_row(text.rpartition(" ")[0])
        for text in ("board", "board 2", "board 2 0 0 1 2 3 4 5 6 7 7"):
            self.assert_wrong_row(text)

    def test_out_of_bounds(self):
        for text in ("toll 8 0 6", "toll 2 1000 6", "toll 2 0 49", "board 2 0 8", "board 2 0 1 1", "board 2 0 4 1",
                     "board 8 0", "trust 0 0 4", "folk 10 0 0", "bargain 0 10 0 0", "pass 0 1440 0 0 1",
                     "pass 0 0 0 0 0", "pass 0 0 0 0 9", "lost 0 0", "lost 1 1440", "paid 0 0 100001",
                     f"paid 0 0 {FIGURES}"):
            self.assert_wrong_row(text)

    def test_numbers_out_of_turn(self):
        self.assert_wrong("0 lost 1 0\n", 0)
        self.assert_wrong("2 lost 1 0\n", 0)
        self.assert_wrong("1 lost 1 0\n1 lost 1 0\n", 1)
        self.assert_wrong("1 lost 1 0\n3 lost 1 0\n", 1)
        self.assert_wrong("1 lost 1 0\n3 lost 1 0\n2 lost 1 0\n", 1)
        self.assert_wrong("2 lost 1 0\n1 lost 1 0\n", 0)
        self.assert_wrong("lost 1 0\n", 0)
        self.assert_wrong("-1 lost 1 0\n", 0)
        self.assert_wrong(f"1 lost 1 0\n{FIGURES} lost 1 0\n", 1)

    def test_a_number_that_lacks(self):
        roll = roll_of(*TEXTS)
        roll.strike(4)
        self.assert_wrong(page_of(roll), 3)
        roll.strike(1)
        self.assert_wrong(page_of(roll), 0)

    def test_a_row_too_many(self):
        rows = [f"{number} paid 0 0 {number}" for number in range(1, 122)]
        self.assert_wrong(page_of_rows(rows), 120)
        self.assert_wrong(page_of_rows(rows) + "x", 120)
        self.assert_wrong(page_of_rows(rows[:120]) + "\n", 120)
        self.assert_wrong(page_of_rows(rows[:120]) + rows[120], 120)
        self.assert_wrong(page_of_rows(rows[:50] + ["51 paid 0 0 x"] + rows[51:]), 50)

    def test_any_sign_changed(self):
        """A page of which a sign is changed is read just where it is the page of what is read."""
        dice = random.Random(7)
        refused = 0
        for _ in range(3000):
            at, sign = dice.randrange(len(PAGE)), dice.choice("0123456789 \nabt~-.")
            text = PAGE[:at] + sign + PAGE[at + dice.randrange(2):]
            try:
                roll = read_page(text)
            except BadPage as wrong:
                refused += 1
                self.assertLessEqual(wrong.row, text.count("\n"))
                ahead = "".join(text.splitlines(keepends=True)[:wrong.row])
                self.assertEqual(page_of(read_page(ahead)), ahead)
            else:
                self.assertEqual(page_of(roll), text)
        self.assertGreater(refused, 1500)
        self.assertLess(refused, 3000)

    def test_a_refused_page_leaves_nothing_behind(self):
        self.assert_wrong("1 lost 1 0\n2 lost 0 0\n", 1)
        roll = read_page("1 lost 1 0\n")
        self.assertEqual(roll.told(), 1)
        with self.assertRaises(NoFact):
            roll.strike(2)


if __name__ == "__main__":
    unittest.main()

"""Points 17 and 18: the roll, its deeds, and what point 2 says of them."""

import random
import unittest

from pikeroll.errors import BadCount, BadFact, Full, Missing, NoFact, Nothing, Other, PikeError
from pikeroll.roll import Roll

FAR = 10 ** 30 - 1
TOLL, TOLLED = ("toll", 2, 0, 6), ("toll", 2, 0, 8)
BOARD, PASSING, PAID = ("board", 1, 3, (0, 4)), ("pass", 0, 60, 2, 5, 1), ("paid", 5, 0, 7)


def roll_of(*told):
    roll = Roll()
    for fact in told:
        roll.tell(fact)
    return roll


def full_roll():
    return roll_of(*[("paid", 0, 0, number) for number in range(1, 121)])


def look(roll):
    """All that is told of a roll, with what can be taken back and done again."""
    early = [roll.known(count).facts() for count in range(roll.deeds() + 1)]
    again, later = roll.twin(), []
    while True:
        try:
            again.redo()
        except Nothing:
            break
        later.append(again.facts())
    return roll.facts(), roll.told(), roll.deeds(), len(roll), early, later


class RollCase(unittest.TestCase):
    def assert_refused(self, error, roll, ask, **fields):
        """Refused with just that error, its fields and no change."""
        before = look(roll)
        with self.assertRaises(error) as caught:
            ask()
        self.assertIs(type(caught.exception), error)
        self.assertIsInstance(caught.exception, Missing if error is NoFact else PikeError)
        for name, value in fields.items():
            self.assertEqual(getattr(caught.exception, name), value)
        self.assertEqual(look(roll), before)


class Telling(RollCase):
    def test_a_new_roll(self):
        self.assertEqual(look(Roll()), ([], 0, 0, 0, [[]], []))

    def test_numbers_from_one(self):
        roll = Roll()
        self.assertEqual([roll.tell(fact) for fact in (TOLL, BOARD, TOLL, PASSING)], [1, 2, 3, 4])
        self.assertEqual(roll.facts(), [(1, TOLL), (2, BOARD), (3, TOLL), (4, PASSING)])
        self.assertEqual((roll.told(), roll.deeds(), len(roll)), (4, 4, 4))

    def test_facts_are_tuples_in_a_list(self):
        told = roll_of(BOARD).facts()
        self.assertIs(type(told), list)
        self.assertEqual([type(told[0]), type(told[0][1]), type(told[0][1][3])], [tuple, tuple, tuple])

    def test_wrong_facts(self):
        roll = roll_of(TOLL, BOARD)
        roll.undo()
        for fact, place in ((("toll", 8, 0, 0), 1), (("toll", 0, 0, 49), 3), (("toll", 0, 0), 0), (("fly", 1), 0),
                            (("board", 0, 0, (1, 0)), 3), (("toll", True, 0, 0), 1), (("paid", 0, 0, -FAR), 3),
                            (("board", 0, 0, (True,)), 3), (("lost", 0, 0), 1), (("pass", 0, 0, 0, 0, 0), 5)):
            self.assert_refused(BadFact, roll, lambda: roll.tell(fact), place=place)
        self.assertEqual(roll.tell(PAID), 2)

    def test_a_hundred_and_twenty_facts(self):
        roll = full_roll()
        self.assertEqual((roll.told(), roll.facts()[-1]), (120, (120, ("paid", 0, 0, 120))))
        self.assert_refused(Full, roll, lambda: roll.tell(PAID))
        self.assert_refused(BadFact, roll, lambda: roll.tell(("paid", 0, 0, -1)), place=3)

    def test_struck_ones_are_counted(self):
        roll = full_roll()
        for number in (7, 120, 1):
            roll.strike(number)
        self.assertEqual((roll.told(), len(roll)), (120, 117))
        self.assert_refused(Full, roll, lambda: roll.tell(PAID))
        roll = roll_of(*[PAID] * 119)
        roll.strike(119)
        self.assertEqual(roll.tell(PAID), 120)
        self.assert_refused(Full, roll, lambda: roll.tell(PAID))

    def test_a_full_roll_may_be_put_right_and_taken_back(self):
        roll = full_roll()
        self.assertEqual(roll.right(120, PAID), ("paid", 0, 0, 120))
        self.assert_refused(Full, roll, lambda: roll.tell(PAID))
        roll.undo()
        self.assert_refused(Full, roll, lambda: roll.tell(PAID))
        roll.undo()
        self.assertEqual(roll.tell(TOLL), 120)
        self.assert_refused(Full, roll, lambda: roll.tell(TOLL))


class Righting(RollCase):
    def test_the_fact_that_stood_there(self):
        roll = roll_of(TOLL, BOARD)
        self.assertEqual(roll.right(1, TOLLED), TOLL)
        self.assertEqual(roll.right(1, TOLL), TOLLED)
        self.assertEqual(roll.right(2, ("board", 0, 0, ())), BOARD)
        self.assertEqual(roll.facts(), [(1, TOLL), (2, ("board", 0, 0, ()))])
        self.assertEqual((roll.told(), roll.deeds(), len(roll)), (2, 5, 2))

    def test_by_the_same_fact(self):
        roll = roll_of(TOLL)
        self.assertEqual(roll.right(1, TOLL), TOLL)
        self.assertEqual(look(roll), ([(1, TOLL)], 1, 2, 1, [[], [(1, TOLL)], [(1, TOLL)]], []))
        roll.undo()
        self.assertEqual((roll.facts(), roll.deeds()), ([(1, TOLL)], 1))

    def test_by_the_same_fact_is_a_deed_behind_one_taken_back(self):
        roll = roll_of(TOLL, BOARD)
        roll.undo()
        roll.right(1, TOLL)
        self.assert_refused(Nothing, roll, roll.redo)

    def test_no_fact(self):
        roll = roll_of(TOLL, BOARD, PAID)
        roll.strike(2)
        roll.undo()
        roll.strike(2)
        for number in (0, -1, 2, 4, 121, FAR, -FAR, True, False):
            for fact in (TOLLED, ("toll", 8, 0, 0), BOARD):
                self.assert_refused(NoFact, roll, lambda: roll.right(number, fact), number=number)
            self.assert_refused(NoFact, roll, lambda: roll.strike(number), number=number)
        self.assert_refused(NoFact, Roll(), lambda: Roll().strike(1), number=1)

    def test_wrong_facts(self):
        roll = roll_of(TOLL, BOARD)
        for fact, place in ((("toll", 8, 0, 0), 1), (("toll", 0, 1000, 0), 2), (("fly", 1), 0), (("toll", 0, 0), 0),
                            (("board", 0, 0, (8,)), 3), (("toll", 0, 0, True), 3)):
            self.assert_refused(BadFact, roll, lambda: roll.right(1, fact), place=place)

    def test_another_first_text(self):
        roll = roll_of(TOLL, ("folk", 0, 0, 0))
        for fact in (BOARD, PASSING, PAID, ("trust", 2, 0, 1), ("folk", 2, 0, 6)):
            self.assert_refused(Other, roll, lambda: roll.right(1, fact))
        for fact in (("paid", 0, 0, 0), TOLL):
            self.assert_refused(Other, roll, lambda: roll.right(2, fact))
        # A wrong fact goes ahead of another first text.
        self.assert_refused(BadFact, roll, lambda: roll.right(1, ("board", 8, 0, ())), place=1)


class Striking(RollCase):
    def test_the_fact_that_is_struck(self):
        roll = roll_of(TOLL, BOARD, PASSING)
        self.assertEqual(roll.strike(2), BOARD)
        self.assertEqual(roll.facts(), [(1, TOLL), (3, PASSING)])
        self.assertEqual((roll.told(), roll.deeds(), len(roll)), (3, 4, 2))
        self.assertEqual(roll.tell(PAID), 4)
        self.assertEqual(roll.strike(4), PAID)
        self.assertEqual(roll.tell(PAID), 5)
        self.assertEqual(roll.facts(), [(1, TOLL), (3, PASSING), (5, PAID)])

    def test_all(self):
        roll = roll_of(TOLL, BOARD)
        roll.strike(2)
        self.assertEqual(roll.strike(1), TOLL)
        self.assertEqual((roll.facts(), roll.told(), roll.deeds()), ([], 2, 4))

    def test_taken_back(self):
        roll = roll_of(TOLL, BOARD)
        before = look(roll)
        roll.strike(1)
        self.assertIsNone(roll.undo())
        self.assertEqual(look(roll)[:5], before[:5])
        self.assertEqual(roll.facts(), [(1, TOLL), (2, BOARD)])


class Undoing(RollCase):
    def test_nothing(self):
        roll = Roll()
        self.assert_refused(Nothing, roll, roll.undo)
        self.assert_refused(Nothing, roll, roll.redo)
        roll.tell(TOLL)
        self.assert_refused(Nothing, roll, roll.redo)
        roll.undo()
        self.assert_refused(Nothing, roll, roll.undo)
        roll.redo()
        self.assert_refused(Nothing, roll, roll.redo)

    def test_back_and_again(self):
        roll = Roll()
        looks = [look(roll)[:5]]
        for deed in (lambda: roll.tell(TOLL), lambda: roll.tell(BOARD), lambda: roll.right(1, TOLLED),
                     lambda: roll.strike(1), lambda: roll.tell(PAID), lambda: roll.right(3, PAID),
                     lambda: roll.strike(3), lambda: roll.tell(PASSING)):
            deed()
            looks.append(look(roll)[:5])
        for _ in range(2):
            for seen in looks[-2::-1]:
                self.assertIsNone(roll.undo())
                self.assertEqual(look(roll)[:5], seen)
            self.assert_refused(Nothing, roll, roll.undo)
            for seen in looks[1:]:
                self.assertIsNone(roll.redo())
                self.assertEqual(look(roll)[:5], seen)
            self.assert_refused(Nothing, roll, roll.redo)

    def test_numbers_are_taken_back_too(self):
        roll = roll_of(TOLL, BOARD)
        roll.undo()
        self.assertEqual((roll.told(), roll.tell(PAID)), (1, 2))
        self.assertEqual(roll.facts(), [(1, TOLL), (2, PAID)])

    def test_a_deed_behind_one_taken_back(self):
        for deed in (lambda roll: roll.tell(PAID), lambda roll: roll.right(1, TOLLED), lambda roll: roll.strike(1)):
            roll = roll_of(TOLL, BOARD, PASSING)
            roll.undo()
            roll.undo()
            roll.redo()
            deed(roll)
            self.assert_refused(Nothing, roll, roll.redo)
            roll.undo()
            roll.redo()
            self.assert_refused(Nothing, roll, roll.redo)

    def test_what_is_refused_leaves_what_can_be_done_again(self):
        roll = roll_of(TOLL, BOARD)
        roll.undo()
        self.assert_refused(BadFact, roll, lambda: roll.tell(("toll", 8, 0, 0)))
        self.assert_refused(NoFact, roll, lambda: roll.strike(2))
        self.assert_refused(Other, roll, lambda: roll.right(1, BOARD))
        self.assert_refused(BadCount, roll, lambda: roll.known(2))
        roll.redo()
        self.assertEqual(roll.facts(), [(1, TOLL), (2, BOARD)])
        full = full_roll()
        full.strike(5)
        full.undo()
        self.assert_refused(Full, full, lambda: full.tell(PAID))
        full.redo()
        self.assertEqual(len(full), 119)

    def test_refused_and_then_good(self):
        roll = roll_of(TOLL)
        self.assert_refused(NoFact, roll, lambda: roll.strike(2), number=2)
        roll.tell(BOARD)
        self.assertEqual(roll.strike(2), BOARD)
        self.assert_refused(NoFact, roll, lambda: roll.right(2, BOARD), number=2)
        roll.undo()
        self.assertEqual(roll.right(2, BOARD), BOARD)


class Known(RollCase):
    def setUp(self):
        self.roll = roll_of(TOLL, BOARD)
        self.roll.right(1, TOLLED)
        self.roll.strike(2)
        self.roll.tell(PAID)
        self.facts = [[], [(1, TOLL)], [(1, TOLL), (2, BOARD)], [(1, TOLLED), (2, BOARD)], [(1, TOLLED)],
                      [(1, TOLLED), (3, PAID)]]

    def test_each_count(self):
        for count, facts in enumerate(self.facts):
            early = self.roll.known(count)
            self.assertIs(type(early), Roll)
            self.assertEqual((early.facts(), early.deeds()), (facts, count))
            self.assertEqual(early.told(), [0, 1, 2, 2, 2, 3][count])

    def test_none_and_all(self):
        self.assertEqual(look(self.roll.known(0)), look(Roll()))
        self.assertEqual(look(self.roll.known(5)), look(self.roll))
        self.assertEqual(look(Roll().known(0)), look(Roll()))

    def test_can_be_taken_back_with_nothing_to_do_again(self):
        early = self.roll.known(4)
        self.assert_refused(Nothing, early, early.redo)
        for count in (3, 2, 1, 0):
            early.undo()
            self.assertEqual(early.facts(), self.facts[count])
        self.assert_refused(Nothing, early, early.undo)
        self.roll.undo()
        early = self.roll.known(4)
        self.assert_refused(Nothing, early, early.redo)
        self.assert_refused(BadCount, self.roll, lambda: self.roll.known(5))

    def test_gone_on_with(self):
        before = look(self.roll)
        early = self.roll.known(2)
        self.assertEqual(early.tell(PASSING), 3)
        early.strike(1)
        self.assertEqual(look(self.roll), before)
        early = self.roll.known(5)
        seen = look(early)
        self.roll.undo()
        self.roll.undo()
        self.roll.tell(PASSING)
        self.assertEqual(look(early), seen)

    def test_wrong_counts(self):
        for count in (-1, 6, 120, FAR, -FAR, True, False):
            self.assert_refused(BadCount, self.roll, lambda: self.roll.known(count))
        self.assert_refused(BadCount, Roll(), lambda: Roll().known(1))


class Twins(RollCase):
    def setUp(self):
        self.roll = roll_of(TOLL, BOARD, PASSING)
        self.roll.strike(1)
        self.roll.undo()
        self.roll.undo()

    def test_has_all_of_it(self):
        twin = self.roll.twin()
        self.assertIs(type(twin), Roll)
        self.assertIsNot(twin, self.roll)
        self.assertEqual(look(twin), look(self.roll))
        twin.redo()
        twin.redo()
        self.assertEqual(twin.facts(), [(2, BOARD), (3, PASSING)])

    def test_neither_changes_the_other(self):
        for changed, other in ((self.roll, self.roll.twin()), (self.roll.twin(), self.roll)):
            seen = look(other)
            changed.redo()
            self.assertEqual(look(other), seen)
            changed.undo()
            changed.undo()
            self.assertEqual(look(other), seen)
            changed.tell(PAID)
            self.assertEqual(look(other), seen)

    def test_of_a_twin_and_of_a_full_roll(self):
        again = self.roll.twin().twin()
        self.assertEqual(look(again), look(self.roll))
        full = full_roll().twin()
        self.assert_refused(Full, full, lambda: full.tell(PAID))


class Alike(RollCase):
    def test_by_the_facts(self):
        for one, other in ((Roll(), Roll()), (roll_of(TOLL, BOARD), roll_of(TOLL, BOARD))):
            self.assertIs(one == other, True)
            self.assertIs(one != other, False)
        righted = roll_of(TOLL)
        righted.right(1, TOLLED)
        self.assertIs(righted == roll_of(TOLLED), True)
        self.assertIs(righted != roll_of(TOLLED), False)

    def test_deeds_do_not_count(self):
        struck = roll_of(TOLL, BOARD)
        struck.strike(2)
        self.assertTrue(struck == roll_of(TOLL))
        struck.strike(1)
        self.assertTrue(struck == Roll())
        undone = roll_of(TOLL, BOARD)
        undone.undo()
        self.assertTrue(undone == roll_of(TOLL))

    def test_unlike(self):
        struck = roll_of(BOARD, TOLL)
        struck.strike(1)
        for other in (Roll(), roll_of(TOLLED), roll_of(TOLL, TOLL), roll_of(BOARD), struck):
            self.assertIs(roll_of(TOLL) == other, False)
            self.assertIs(roll_of(TOLL) != other, True)
            self.assertIs(other == roll_of(TOLL), False)

    def test_nothing_else(self):
        for roll in (Roll(), roll_of(TOLL)):
            for other in (None, 0, 1, False, "", [], (), {}, [(1, TOLL)], roll.facts(), len(roll), object()):
                self.assertIs(roll == other, False)
                self.assertIs(other == roll, False)
                self.assertIs(roll != other, True)
                self.assertIs(other != roll, True)

    def test_len_and_truth(self):
        roll = Roll()
        self.assertIs(bool(roll), False)
        roll.tell(TOLL)
        self.assertIs(bool(roll), True)
        roll.tell(BOARD)
        self.assertEqual(len(roll), 2)
        roll.strike(1)
        self.assertEqual((len(roll), bool(roll)), (1, True))
        roll.strike(2)
        self.assertEqual((len(roll), bool(roll), roll.told()), (0, False, 2))
        roll.undo()
        self.assertIs(bool(roll), True)


class Handing(RollCase):
    def test_by_name(self):
        roll = Roll()
        self.assertEqual(roll.tell(fact=TOLL), 1)
        self.assertEqual(roll.right(fact=TOLLED, number=1), TOLL)
        self.assertEqual(roll.known(count=1).facts(), [(1, TOLL)])
        self.assertEqual(roll.strike(number=1), TOLLED)

    def test_lists_are_new(self):
        roll = roll_of(TOLL)
        told = roll.facts()
        told.append((2, BOARD))
        self.assertEqual(roll.facts(), [(1, TOLL)])
        self.assertIsNot(roll.facts(), roll.facts())
        roll.tell(PAID)
        self.assertEqual(told, [(1, TOLL), (2, BOARD)])

    def test_rolls_made_apart(self):
        one, other = Roll(), Roll()
        one.tell(TOLL)
        self.assertEqual(look(other), look(Roll()))
        other.tell(BOARD)
        one.undo()
        self.assertEqual(other.facts(), [(1, BOARD)])

    def test_asking_changes_nothing(self):
        roll = roll_of(TOLL, BOARD)
        roll.undo()
        for _ in range(3):
            self.assertEqual(look(roll), ([(1, TOLL)], 1, 1, 1, [[], [(1, TOLL)]], [[(1, TOLL), (2, BOARD)]]))
            self.assertTrue(roll == roll.twin() and roll)


class MadeDeeds(unittest.TestCase):
    """Many deeds, against a roll that keeps a copy of all at each of them."""

    def test_against_copies(self):
        for seed in range(60):
            dice = random.Random(seed)
            roll, past, later = Roll(), [{}], []
            told = [0]
            for _ in range(120):
                kind = dice.choice(["tell", "tell", "right", "strike", "undo", "undo", "redo", "redo"])
                number = dice.randrange(1, told[-1] + 2)
                facts = dict(past[-1])
                if kind in ("tell", "right", "strike"):
                    fact = ("paid", dice.randrange(10), 0, dice.randrange(9))
                    if kind == "tell":
                        number = told[-1] + 1
                        self.assertEqual(roll.tell(fact), number)
                        facts[number] = fact
                    elif number not in facts:
                        with self.assertRaises(NoFact):
                            roll.strike(number) if kind == "strike" else roll.right(number, fact)
                        continue
                    elif kind == "right":
                        self.assertEqual(roll.right(number, fact), facts[number])
                        facts[number] = fact
                    else:
                        self.assertEqual(roll.strike(number), facts.pop(number))
                    past.append(facts)
                    told.append(max(told[-1], number))
                    later.clear()
                elif kind == "undo" and len(past) > 1:
                    roll.undo()
                    later.append((past.pop(), told.pop()))
                elif kind == "redo" and later:
                    roll.redo()
                    again, many = later.pop()
                    past.append(again)
                    told.append(many)
                else:
                    with self.assertRaises(Nothing):
                        roll.undo() if kind == "undo" else roll.redo()
                self.assertEqual(roll.facts(), sorted(past[-1].items()))
                self.assertEqual((roll.told(), roll.deeds(), len(roll)), (told[-1], len(past) - 1, len(past[-1])))
                count = dice.randrange(len(past))
                self.assertEqual(roll.known(count).facts(), sorted(past[count].items()))
                self.assertEqual(look(roll.known(count))[1:3], (told[count], count))


if __name__ == "__main__":
    unittest.main()

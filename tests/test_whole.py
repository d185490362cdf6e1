"""Points 1, 2 and 10 over the parts together: rolls, their pages and desks, and what is asked of their facts."""

import random
import unittest

from pikeroll.accounts import balances, owes
from pikeroll.desk import Desk
from pikeroll.drives import cheapest, prices
from pikeroll.pages import fact_text, page_of, read_page
from pikeroll.roll import Roll
from pikeroll.walk import day_walk, turned, why

DAYS, CARRIAGES, GATES = (0, 6), 2, 3


def made_fact(dice):
    day, gate, carriage = dice.choice(DAYS), dice.randrange(GATES), dice.randrange(CARRIAGES)
    passing = ("pass", day, dice.randrange(20), gate, carriage, dice.randrange(1, 4))
    return dice.choice([
        *[passing] * 5, ("lost", dice.randrange(1, 20), dice.randrange(20)), ("toll", gate, day, dice.randrange(9)),
        ("board", gate, day, tuple(sorted(dice.sample(range(GATES), 2)))), ("trust", gate, day, dice.randrange(4)),
        ("folk", carriage, day, day), ("bargain", gate, carriage, day, day), ("paid", carriage, day, 9),
    ])


def made_roll(dice, many=30):
    roll = Roll()
    for _ in range(many):
        roll.tell(made_fact(dice))
    return roll


def asked(roll):
    """All that is asked of a roll's facts."""
    facts = roll.facts()
    net = [(0, 1, 0), (1, 2, 1), (2, 0, 2), (2, 3, None)]
    walks = [day_walk(facts, carriage, day) for carriage in range(CARRIAGES) for day in DAYS]
    return (walks, [why(facts, row[0]) for walk in walks for row in walk],
            [owes(facts, carriage) for carriage in range(CARRIAGES)], balances(facts),
            cheapest(facts, net, 0, [1, 3]), prices(facts, net, 0, [1, 3], 2, 6))


class Changes(unittest.TestCase):
    """What point 10 says of a passing that is told, put right or struck on a roll."""

    def assert_turns_behind(self, before, after, number):
        facts, others = dict(before), dict(after)
        moved = [known[number] for known in (facts, others) if number in known]
        for turn in turned(before, after):
            if turn != number:
                self.assertTrue(any(fact[1] == facts[turn][1] and fact[4] == facts[turn][4]
                                    and (fact[2], number) < (facts[turn][2], turn) for fact in moved))

    def test_passings(self):
        turns = 0
        for seed in range(40):
            dice = random.Random(seed)
            roll = made_roll(dice)
            passing = ("pass", 0, 3, 1, 0, 2)
            before = roll.facts()
            number = roll.tell(passing)
            self.assert_turns_behind(before, roll.facts(), number)
            for number, fact in before:
                if fact[0] == "pass":
                    for deed in (lambda: roll.right(number, passing), lambda: roll.strike(number)):
                        before = roll.facts()
                        deed()
                        turns += len(turned(before, roll.facts()))
                        self.assert_turns_behind(before, roll.facts(), number)
                        roll.undo()
        self.assertGreater(turns, 100)

    def test_facts_of_one_carriage(self):
        for seed in range(40):
            dice = random.Random(seed)
            roll = made_roll(dice)
            before, known = roll.facts(), dict(roll.facts())
            own = {number for number, fact in before if fact[0] == "pass" and fact[4] == 0}
            roll.tell(("folk", 0, 0, 3))
            roll.tell(("bargain", 1, 0, 0, 9))
            roll.tell(("paid", 0, 0, 4))
            for number in own:
                roll.tell(("lost", number, 0))
            self.assertLessEqual(set(turned(before, roll.facts())), own)
            for number in own:
                roll.right(number, ("pass", 0, 1, 2, 0, 8)) if number % 2 else roll.strike(number)
            self.assertLessEqual(set(turned(before, roll.facts())), own)
            self.assertTrue(all(known[number][4] == 0 for number in own))

    def test_what_is_taken_back_turns_nothing(self):
        for seed in range(20):
            roll = made_roll(random.Random(seed))
            before = roll.facts()
            for deed in (lambda: roll.tell(("toll", 0, 0, 40)), lambda: roll.strike(1)):
                deed()
                roll.undo()
                self.assertEqual(turned(before, roll.facts()), [])


class Together(unittest.TestCase):
    def test_asked_twice_and_of_a_page_read_again(self):
        for seed in range(20):
            roll = made_roll(random.Random(seed))
            page, answers = page_of(roll), asked(roll)
            self.assertEqual(asked(roll), answers)
            self.assertEqual(page_of(roll), page)
            self.assertEqual(asked(read_page(page)), answers)
            self.assertEqual(asked(roll.twin()), answers)
            self.assertEqual(asked(roll.known(30)), answers)
            self.assertEqual(asked(Desk(roll).roll()), answers)

    def test_told_at_a_desk(self):
        for seed in range(20):
            roll, desk = made_roll(random.Random(seed)), Desk()
            for number, fact in roll.facts():
                self.assertEqual(desk.say(fact_text(fact)), str(number))
            self.assertEqual(desk.roll(), roll)
            self.assertEqual(desk.say("owes 0 999"), str(owes(roll.facts(), 0)))

    def test_the_order_of_telling_is_no_order_of_passing(self):
        """Told late or not, the same passings of unlike minutes owe the same."""
        for seed in range(20):
            dice = random.Random(seed)
            facts = [("toll", gate, 0, 3 * gate + 1) for gate in range(GATES)] + [("board", 0, 0, (1, 2))]
            passings = [("pass", 0, minute, dice.randrange(GATES), 0, dice.randrange(1, 4)) for minute in range(9)]
            one, other = Roll(), Roll()
            for fact in facts + passings:
                one.tell(fact)
            dice.shuffle(passings)
            for fact in passings + facts:
                other.tell(fact)
            walks = [[(row[1], row[3]) for row in day_walk(roll.facts(), 0)] for roll in (one, other)]
            self.assertEqual(walks[0], walks[1])
            self.assertFalse(one == other)


if __name__ == "__main__":
    unittest.main()

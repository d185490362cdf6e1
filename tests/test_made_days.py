"""Points 7 to 12 on many made lists of facts, against a slow reading of the same words."""

import unittest

from pikeroll.accounts import balances, owes
from pikeroll.facts import board_on, need_fact, toll_on, trust_on
from pikeroll.walk import day_walk, row_of, turned, why

LISTS = 250
GATES, CARRIAGES, DAYS, MINUTES = 4, 3, (0, 5, 6, 7, 13), (0, 1, 2, 700, 1439)


class Dice:
    """Numbers that look thrown and are the same each time."""

    def __init__(self, seed):
        self.state = seed * 7919 + 1

    def below(self, many):
        self.state = (self.state * 6364136223846793005 + 1442695040888963407) % 2 ** 64
        return (self.state >> 33) % many

    def one_of(self, things):
        return things[self.below(len(things))]


def made_fact(dice):
    gate, carriage, day = dice.below(GATES), dice.below(CARRIAGES), dice.one_of(DAYS)
    word = dice.one_of(["pass"] * 8 + ["lost"] * 2 + ["toll", "board", "trust", "folk", "bargain", "paid"])
    rest = {
        "toll": (gate, day, dice.below(12)),
        "board": (gate, day, tuple(other for other in range(GATES) if dice.below(2))),
        "trust": (gate, day, dice.below(4)),
        "folk": (carriage, day, dice.one_of(DAYS)),
        "bargain": (gate, carriage, day, dice.one_of(DAYS)),
        "pass": (day, dice.one_of(MINUTES), gate, carriage, 1 + dice.below(3)),
        "lost": (1 + dice.below(30), dice.one_of(MINUTES)),
        "paid": (carriage, day, dice.below(50)),
    }
    return (word, *rest[word])


def made_facts(dice):
    number = 0
    facts = []
    for _ in range(dice.below(40)):
        number += 1 + (dice.below(5) == 0)
        facts.append((number, made_fact(dice)))
    return facts


def slow_rows(facts):
    """The row of each passing, word by word as points 7 and 8 tell it."""
    passings = {number: fact for number, fact in facts if fact[0] == "pass"}
    rows = {}
    for number in sorted(passings, key=lambda number: (passings[number][2], number)):
        _, day, minute, gate, carriage, horses = passings[number]
        clearing = [ticket for ticket in rows if slow_word(facts, passings, rows, ticket, number) == "clears"]
        if any(fact[0] == "folk" and fact[1] == carriage and day in range(fact[2], fact[3] + 1) for _, fact in facts):
            rows[number] = (number, "folk", None, 0)
        elif any(fact[:3] == ("bargain", gate, carriage) and day in range(fact[3], fact[4] + 1) for _, fact in facts):
            rows[number] = (number, "bargain", None, 0)
        elif clearing:
            rows[number] = (number, "ticket", clearing[0], 0)
        else:
            rows[number] = (number, "owed", None, slow_fare(facts, passings[number]))
    return rows


def slow_fare(facts, fact):
    _, day, _, gate, _, horses = fact
    return toll_on(facts, gate, day) * horses * (2 if day in (6, 13) else 1)


def slow_word(facts, passings, rows, ticket, number):
    """None where no ticket was bought there for that day and carriage, else a reason, or that it clears."""
    bought, fact = passings[ticket], passings[number]
    if rows[ticket][1] != "owed" or bought[1] != fact[1] or bought[4] != fact[4]:
        return None
    if (bought[2], ticket) >= (fact[2], number):
        return None
    if fact[3] != bought[3] and fact[3] not in board_on(facts, bought[3], fact[1]):
        return "board"
    if bought[5] < fact[5]:
        return "horses"
    if any(lost[0] == "lost" and lost[1] == ticket and lost[2] <= fact[2] for _, lost in facts):
        return "lost"
    return "clears"


def slow_why(facts, rows, number):
    passings = {held: fact for held, fact in facts if fact[0] == "pass"}
    order = sorted(passings, key=lambda held: (passings[held][2], held))
    words = [(ticket, slow_word(facts, passings, rows, ticket, number)) for ticket in order]
    return [pair for pair in words if pair[1] not in (None, "clears")]


def slow_owes(facts, rows, carriage, day):
    known = dict(facts)
    owed = sum(row[3] for number, row in rows.items() if known[number][4] == carriage and known[number][1] <= day)
    return owed - sum(fact[3] for fact in known.values() if fact[:2] == ("paid", carriage) and fact[2] <= day)


def slow_balances(facts, rows, day):
    known = dict(facts)
    told = {0: 0, 1: 0, 2: 0, 3: 0}
    for number, row in rows.items():
        driven = known[number][1]
        if row[1] == "ticket" and driven <= day:
            former = trust_on(facts, known[row[2]][3], driven)
            latter = trust_on(facts, known[number][3], driven)
            if former != latter:
                told[former] -= slow_fare(facts, known[number]) // 3
                told[latter] += slow_fare(facts, known[number]) // 3
    return list(told.values())


def place(fact, number):
    return fact[2], number


class MadeDays(unittest.TestCase):
    @classmethod
    def setUpClass(cls):
        cls.made = []
        for seed in range(LISTS):
            facts = made_facts(Dice(seed))
            cls.made.append((facts, slow_rows(facts)))

    def test_the_facts_are_good_and_all_words_come(self):
        words, reasons = set(), set()
        for facts, rows in self.made:
            for _, fact in facts:
                need_fact(fact)
            words |= {row[1] for row in rows.values()}
            reasons |= {pair[1] for number in rows for pair in why(facts, number)}
        self.assertEqual(words, {"folk", "bargain", "ticket", "owed"})
        self.assertEqual(reasons, {"board", "horses", "lost"})

    def test_rows(self):
        for facts, rows in self.made:
            told = {}
            for carriage in range(CARRIAGES):
                for day in range(14):
                    walk = day_walk(facts, carriage, day)
                    known = dict(facts)
                    for row in walk:
                        self.assertEqual((known[row[0]][1], known[row[0]][4]), (day, carriage))
                    self.assertEqual(walk, sorted(walk, key=lambda row: place(known[row[0]], row[0])))
                    told.update({row[0]: row for row in walk})
            self.assertEqual(told, rows)
            self.assertEqual({number: row_of(facts, number) for number in rows}, rows)

    def test_why(self):
        for facts, rows in self.made:
            for number in rows:
                self.assertEqual(why(facts, number), slow_why(facts, rows, number))

    def test_a_passing_by_ticket_is_hindered_by_all_but_those_that_clear(self):
        for facts, rows in self.made:
            for number, row in rows.items():
                if row[1] == "ticket":
                    self.assertNotIn(row[2], [pair[0] for pair in why(facts, number)])

    def test_accounts(self):
        for facts, rows in self.made:
            for day in (0, 4, 5, 6, 7, 12, 13, 999):
                for carriage in range(CARRIAGES):
                    self.assertEqual(owes(facts, carriage, day).halves, slow_owes(facts, rows, carriage, day))
                told = [toll.halves for toll in balances(facts, day)]
                self.assertEqual(told, slow_balances(facts, rows, day))
                self.assertEqual(sum(told), 0)

    def test_turned(self):
        for (facts, rows), (others, turns) in zip(self.made, self.made[1:]):
            unlike = sorted(number for number in set(rows) & set(turns) if rows[number] != turns[number])
            self.assertEqual(turned(facts, others), unlike)
            self.assertEqual(turned(others, facts), unlike)


class Changes(unittest.TestCase):
    """What point 10 says a change does not turn."""

    def test_facts_of_one_carriage_turn_no_passing_of_another(self):
        for seed in range(LISTS):
            dice = Dice(seed + 1000)
            facts = made_facts(dice)
            carriage = dice.below(CARRIAGES)
            own = {number for number, fact in facts if fact[0] == "pass" and fact[4] == carriage}
            others = [pair for pair in facts if not self.is_of(pair[1], carriage, own) or dice.below(2)]
            others += [(900, ("pass", dice.one_of(DAYS), dice.one_of(MINUTES), dice.below(GATES), carriage, 3)),
                       (901, ("folk", carriage, dice.one_of(DAYS), dice.one_of(DAYS)))]
            self.assertLessEqual(set(turned(facts, others)), own)

    def is_of(self, fact, carriage, own):
        if fact[0] in ("folk", "paid"):
            return fact[1] == carriage
        if fact[0] == "bargain":
            return fact[2] == carriage
        return fact[0] == "pass" and fact[4] == carriage or fact[0] == "lost" and fact[1] in own

    def test_a_passing_turns_none_ahead_of_it_nor_of_another_day(self):
        for seed in range(LISTS):
            dice = Dice(seed + 2000)
            facts = made_facts(dice)
            number = 500
            told = ("pass", dice.one_of(DAYS), dice.one_of(MINUTES), dice.below(GATES), dice.below(CARRIAGES), 3)
            self.assert_turns_behind(facts, facts + [(number, told)], [told], number)
            for held, fact in facts:
                if fact[0] == "pass":
                    struck = [pair for pair in facts if pair[0] != held]
                    self.assert_turns_behind(facts, struck, [fact], held)
                    right = [(other, told if other == held else stood) for other, stood in facts]
                    self.assert_turns_behind(facts, right, [fact, told], held)

    def assert_turns_behind(self, facts, others, changed, number):
        known = dict(facts)
        for turns in turned(facts, others):
            if turns != number:
                fact = known[turns]
                self.assertTrue([change for change in changed if change[1] == fact[1] and change[4] == fact[4]
                                 and place(change, number) < place(fact, turns)])


if __name__ == "__main__":
    unittest.main()

"""Points 13 to 15 on many made nets, against a slow reading of the same words.

What a way pays is told there by the rows of a carriage that passes its gates one by one.
"""

import random
import unittest

from pikeroll.drives import cheapest, good_prices, pays, prices
from pikeroll.walk import day_walk

NETS = 300
PLACES, GATES, DAYS = 4, 5, (0, 5, 6)


def made_net(dice):
    roads = []
    for _ in range(dice.randrange(8)):
        gate = dice.choice([None, *range(GATES)])
        roads.append((dice.randrange(PLACES), dice.randrange(PLACES), gate))
    return roads


def made_facts(dice):
    facts = []
    for _ in range(dice.randrange(14)):
        gate, day = dice.randrange(GATES), dice.choice(DAYS)
        named = tuple(other for other in range(GATES) if dice.randrange(3) == 0)
        facts.append(dice.choice([("toll", gate, day, dice.randrange(10)), ("board", gate, day, named)]))
    return list(enumerate(facts, start=1))


def roads_from(net, place):
    """For each road from a place the pair (gate, end)."""
    return [(gate, other if place == one else one) for one, other, gate in net if place in (one, other)]


def walked(facts, gates, horses, day):
    """What a carriage owes that passes these gates in this order."""
    passings = [(100 + at, ("pass", day, at, gate, 0, horses)) for at, gate in enumerate(gates)]
    return sum(row[3] for row in day_walk(facts + passings, 0, day))


def every_way(net, places):
    """The gates of each choice of roads along places."""
    ways = [()]
    for place, end in zip(places, places[1:]):
        ways = [way + (gate,) for way in ways for gate, behind in roads_from(net, place) if behind == end]
    return [[gate for gate in way if gate is not None] for way in ways]


def every_drive(net, start, errands, longest):
    """The gates and places of each drive of not more roads than the longest that does the errands."""
    drives = []
    ways = [((), (start,))]
    while ways:
        gates, places = ways.pop()
        if set(errands) <= set(places):
            drives.append(([gate for gate in gates if gate is not None], list(places)))
        elif len(gates) < longest:
            for gate, end in roads_from(net, places[-1]):
                ways.append((gates + (gate,), places + (end,)))
    return drives


class Reading:
    """Stands as triples of a place and two frozen sets, with their steps and prices."""

    def __init__(self, facts, net, horses, day):
        self.facts, self.net, self.horses, self.day = facts, net, horses, day

    def board(self, gate):
        """The gates that a ticket of the gate clears: those which a carriage then passes by it."""
        cleared = set()
        for other in range(8):
            rows = day_walk([*self.facts, (100, ("pass", self.day, 0, gate, 0, 1)),
                             (101, ("pass", self.day, 1, other, 0, 1))], 0, self.day)
            if rows[1][1] == "ticket":
                cleared.add(other)
        return cleared

    def steps(self, stand):
        place, cleared, left = stand
        found = []
        for gate, end in roads_from(self.net, place):
            if gate is None or gate in cleared:
                found.append((0, (end, cleared, left - {end})))
            else:
                cost = walked(self.facts, [gate], self.horses, self.day)
                found.append((cost, (end, cleared | self.board(gate), left - {end})))
        return found

    def prices(self, start, errands):
        stands = {(start, frozenset(), frozenset(errands) - {start}): []}
        new = list(stands)
        while new:
            stand = new.pop()
            stands[stand] = self.steps(stand) if stand[2] else []
            found = {behind for _, behind in stands[stand]} - set(stands)
            stands.update({behind: [] for behind in found})
            new.extend(found)
        halves = {stand: 0 if not stand[2] else None for stand in stands}
        changed = True
        while changed:
            changed = False
            for stand, steps in stands.items():
                ways = [cost + halves[behind] for cost, behind in steps if halves[behind] is not None]
                if ways and halves[stand] != min(ways):
                    halves[stand] = min(ways)
                    changed = True
        if None in halves.values():
            return []
        return sorted(((place, tuple(sorted(cleared)), tuple(sorted(left))), least)
                      for (place, cleared, left), least in halves.items())

    def are_good(self, start, errands, told):
        """Of prices whose stands are made as they must be."""
        known = {(place, frozenset(cleared), frozenset(left)): halves for (place, cleared, left), halves in told}
        if [stand for stand, _ in told] != sorted({stand for stand, _ in told}):
            return False
        if (start, frozenset(), frozenset(errands) - {start}) not in known:
            return False
        for stand, halves in known.items():
            if not stand[2] and halves != 0:
                return False
            if stand[2] and not all(behind in known and halves <= cost + known[behind]
                                    for cost, behind in self.steps(stand)):
                return False
        return True


class MadeDrives(unittest.TestCase):
    @classmethod
    def setUpClass(cls):
        cls.made = []
        for seed in range(NETS):
            dice = random.Random(seed)
            errands = dice.sample(range(PLACES), dice.randrange(4))
            cls.made.append((made_facts(dice), made_net(dice), dice.randrange(PLACES), errands,
                             dice.randrange(1, 9), dice.choice(DAYS)))

    def test_pays(self):
        answers = set()
        for seed, (facts, net, start, _, horses, day) in enumerate(self.made):
            dice = random.Random(seed + 5000)
            for length in range(7):
                places = [start]
                for _ in range(length):
                    ends = [end for _, end in roads_from(net, places[-1])]
                    places.append(dice.choice(ends) if ends and dice.randrange(20) else dice.randrange(PLACES))
                least = min([walked(facts, gates, horses, day) for gates in every_way(net, places)], default=None)
                self.assertEqual(pays(facts, net, places, horses, day), least)
                answers.add(least)
        self.assertIn(None, answers)
        self.assertGreater(len(answers), 20)

    def test_cheapest_is_a_drive_that_pays_so_much(self):
        for facts, net, start, errands, horses, day in self.made:
            told = cheapest(facts, net, start, errands, horses, day)
            if told is not None:
                halves, places = told
                self.assertEqual(places[0], start)
                self.assertLessEqual(set(errands), set(places))
                self.assertFalse(len(places) > 1 and set(errands) <= set(places[:-1]))
                self.assertEqual(pays(facts, net, places, horses, day), halves)

    def test_no_short_drive_pays_less(self):
        found = 0
        for facts, net, start, errands, horses, day in self.made:
            told = cheapest(facts, net, start, errands, horses, day)
            for gates, places in every_drive(net, start, errands, 5):
                found += 1
                paid = walked(facts, gates, horses, day)
                self.assertGreaterEqual(paid, told[0])
                self.assertLessEqual(pays(facts, net, places, horses, day), paid)
        self.assertGreater(found, 1000)

    def test_prices(self):
        kinds = set()
        for facts, net, start, errands, horses, day in self.made:
            slow = Reading(facts, net, horses, day).prices(start, errands)
            told = prices(facts, net, start, errands, horses, day)
            self.assertEqual(told, slow)
            left = tuple(sorted(set(errands) - {start}))
            paid = cheapest(facts, net, start, errands, horses, day)
            self.assertEqual(dict(slow).get((start, (), left)), None if paid is None else paid[0])
            kinds.add((len(told) > 20, paid is None))
        self.assertEqual(kinds, {(True, False), (False, False), (False, True)})

    def test_good_prices(self):
        answers = {True: 0, False: 0}
        for seed, (facts, net, start, errands, horses, day) in enumerate(self.made):
            dice = random.Random(seed + 9000)
            reading = Reading(facts, net, horses, day)
            told = prices(facts, net, start, errands, horses, day)
            self.assertIs(good_prices(facts, net, start, errands, told, horses, day), told != [])
            for _ in range(8 if told else 0):
                changed = self.changed(dice, told)
                good = reading.are_good(start, errands, changed)
                self.assertIs(good_prices(facts, net, start, errands, changed, horses, day), good)
                answers[good] += 1
                if good:
                    left = tuple(sorted(set(errands) - {start}))
                    paid = cheapest(facts, net, start, errands, horses, day)[0]
                    self.assertLessEqual(dict(changed)[start, (), left], paid)
        self.assertGreater(min(answers.values()), 100)

    def changed(self, dice, told):
        at, other = dice.randrange(len(told)), dice.randrange(len(told))
        stand, halves = told[at]
        kind = dice.randrange(5)
        if kind == 0:
            return told[:at] + told[at + 1:]
        if kind == 1:
            return told[:at] + [(stand, halves + dice.randrange(-6, 7))] + told[at + 1:]
        if kind == 2:
            changed = list(told)
            changed[at], changed[other] = changed[other], changed[at]
            return changed
        if kind == 3:
            less = dice.randrange(20)
            return [(each, max(halves - less, 0)) for each, halves in told]
        return [(each, halves // 2 if each[2] else 0) for each, halves in told]


if __name__ == "__main__":
    unittest.main()

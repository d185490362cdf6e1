"""Point 15: prices of stands, and when handed-in ones are good."""

import copy
import unittest

from pikeroll.drives import cheapest, good_prices, prices

FAR = 10 ** 30 - 1

# Gate 1 asks 2, gate 2 asks 3, gate 5 asks 4 and its ticket clears gate 2.
FACTS = [(1, ("toll", 1, 0, 2)), (2, ("toll", 2, 0, 3)), (3, ("toll", 5, 0, 4)), (4, ("board", 5, 0, (2,)))]
NET = [(0, 1, 1), (0, 1, 5), (1, 2, 2)]
TOLD = [
    ((0, (), (2,)), 4),
    ((0, (1,), (2,)), 3),
    ((0, (1, 2, 5), (2,)), 0),
    ((0, (2, 5), (2,)), 0),
    ((1, (1,), (2,)), 3),
    ((1, (1, 2, 5), (2,)), 0),
    ((1, (2, 5), (2,)), 0),
    ((2, (1, 2), ()), 0),
    ((2, (1, 2, 5), ()), 0),
    ((2, (2, 5), ()), 0),
]


def good(told, net=NET, start=0, errands=(2,), horses=1, day=0):
    return good_prices(FACTS, net, start, list(errands), told, horses, day)


def with_price(told, at, halves):
    return [*told[:at], (told[at][0], halves), *told[at + 1:]]


class Prices(unittest.TestCase):
    def test_stands_told_rising(self):
        self.assertEqual(prices(FACTS, NET, 0, [2]), TOLD)

    def test_kinds(self):
        told = prices(FACTS, NET, 0, [2])
        self.assertIs(type(told), list)
        for pair in told:
            self.assertIs(type(pair), tuple)
            (place, cleared, left), halves = pair
            self.assertEqual([type(thing) for thing in (pair[0], place, cleared, left, halves)],
                             [tuple, int, tuple, tuple, int])

    def test_no_errands(self):
        for net in ([], NET):
            self.assertEqual(prices(FACTS, net, 0, []), [((0, (), ()), 0)])

    def test_an_errand_at_the_beginning(self):
        self.assertEqual(prices(FACTS, NET, 2, [2]), [((2, (), ()), 0)])
        self.assertEqual(prices(FACTS, [(2, 1, 1)], 2, [1, 2]), [((1, (1,), ()), 0), ((2, (), (1,)), 2)])

    def test_errands_that_cannot_be_come_to(self):
        self.assertEqual(prices(FACTS, NET, 0, [7]), [])
        self.assertEqual(prices(FACTS, NET, 0, [2, 7]), [])
        self.assertEqual(prices(FACTS, [], 0, [1]), [])

    def test_errands_in_any_order(self):
        net = [(0, 1, 1), (0, 2, None)]
        told = [
            ((0, (), (1,)), 2), ((0, (), (1, 2)), 2), ((0, (1,), (2,)), 0),
            ((1, (1,), ()), 0), ((1, (1,), (2,)), 0), ((2, (), (1,)), 2), ((2, (1,), ()), 0),
        ]
        self.assertEqual(prices(FACTS, net, 0, [1, 2]), told)
        self.assertEqual(prices(FACTS, net, 0, [2, 1]), told)
        self.assertEqual(prices(FACTS, net, 0, [2, 0, 1]), told)

    def test_boards_name_gates_that_the_net_lacks(self):
        facts = [(1, ("board", 3, 0, (6, 7)))]
        self.assertEqual(prices(facts, [(4, 5, 3)], 5, [4]), [((4, (3, 6, 7), ()), 0), ((5, (), (4,)), 0)])

    def test_a_road_from_a_place_to_itself(self):
        told = [((0, (), (1,)), 4), ((0, (2, 5), (1,)), 0), ((1, (2,), ()), 0), ((1, (2, 5), ()), 0)]
        facts = [*FACTS, (5, ("toll", 2, 0, 9))]
        self.assertEqual(prices(facts, [(0, 0, 5), (0, 1, 2)], 0, [1]), told)

    def test_horses_and_sundays(self):
        for horses, day, times in ((1, 0, 1), (4, 0, 4), (1, 6, 2), (8, 13, 16)):
            self.assertEqual(prices(FACTS, NET, 0, [2], horses, day), [(stand, times * n) for stand, n in TOLD])

    def test_the_first_stand_has_what_the_cheapest_drive_pays(self):
        for start in range(3):
            for errands in ([0], [1], [2], [0, 2], [2, 0, 1]):
                left = tuple(sorted(set(errands) - {start}))
                known = dict(prices(FACTS, NET, start, errands))
                self.assertEqual(known[start, (), left], cheapest(FACTS, NET, start, errands)[0])


class GoodPrices(unittest.TestCase):
    def test_told_ones_are_good(self):
        for start in range(3):
            for errands in ([], [1], [2], [1, 2], [0, 1, 2]):
                for horses, day in ((1, 0), (3, 6)):
                    told = prices(FACTS, NET, start, errands, horses, day)
                    self.assertIs(good_prices(FACTS, NET, start, errands, told, horses, day), True)

    def test_an_empty_list(self):
        self.assertIs(good([]), False)
        self.assertIs(good([], errands=()), False)
        self.assertIs(good([], errands=(7,)), False)

    def test_a_pair_out(self):
        for at in range(len(TOLD)):
            self.assertIs(good(TOLD[:at] + TOLD[at + 1:]), False)

    def test_a_pair_twice(self):
        for at, pair in enumerate(TOLD):
            self.assertIs(good(TOLD[:at] + [pair] + TOLD[at:]), False)
            self.assertIs(good(TOLD[:at + 1] + [(pair[0], pair[1] + 1)] + TOLD[at + 1:]), False)
            self.assertIs(good(TOLD[:at] + [(pair[0], pair[1] - 1)] + TOLD[at:]), False)
        self.assertIs(good(TOLD + TOLD), False)

    def test_pairs_exchanged(self):
        for one in range(len(TOLD)):
            for other in range(one):
                told = list(TOLD)
                told[one], told[other] = told[other], told[one]
                self.assertIs(good(told), False)
        self.assertIs(good(TOLD[::-1]), False)

    def test_a_price_raised(self):
        for at, (_, halves) in enumerate(TOLD):
            for more in (1, 2, 100, FAR - 10):
                self.assertIs(good(with_price(TOLD, at, halves + more)), False)

    def test_a_price_lowered(self):
        # The first stand stands behind no other one, so a lower price there is good; the others bind it.
        self.assertIs(good(with_price(TOLD, 0, 3)), True)
        self.assertIs(good(with_price(TOLD, 0, -1)), True)
        self.assertIs(good(with_price(TOLD, 0, -FAR)), True)
        for at in (1, 4):
            self.assertIs(good(with_price(TOLD, at, 2)), False)
        for at in (7, 8, 9):
            self.assertIs(good(with_price(TOLD, at, -1)), False)

    def test_all_prices_lowered(self):
        told = [(stand, min(halves, 1)) for stand, halves in TOLD]
        self.assertIs(good(told), True)
        self.assertIs(good([(stand, 0) for stand, _ in TOLD]), True)
        self.assertIs(good([(stand, halves - 5 if stand[2] else 0) for stand, halves in TOLD]), True)
        self.assertIs(good([(stand, halves - 5) for stand, halves in TOLD]), False)

    def test_a_price_just_as_great_as_the_steps_allow(self):
        net = [(0, 1, 1)]
        told = [((0, (), (1,)), 2), ((1, (1,), ()), 0)]
        self.assertIs(good(told, net, errands=(1,)), True)
        self.assertIs(good(with_price(told, 0, 3), net, errands=(1,)), False)
        self.assertIs(good(with_price(told, 0, 6), net, errands=(1,), horses=3), True)
        self.assertIs(good(with_price(told, 0, 7), net, errands=(1,), horses=3), False)
        self.assertIs(good(with_price(told, 0, 4), net, errands=(1,), day=6), True)
        self.assertIs(good(with_price(told, 0, 5), net, errands=(1,), day=6), False)

    def test_further_stands(self):
        more = [((7, (), ()), 0), ((7, (0, 3), (2,)), FAR), ((7, (0, 4), (2,)), -FAR)]
        self.assertIs(good(TOLD + more[:1]), True)
        self.assertIs(good(TOLD + more), True)
        self.assertIs(good(TOLD + [((7, (), ()), 1)]), False)
        self.assertIs(good(TOLD + [((7, (), ()), -1)]), False)
        # From the place 2 a road leads on, also for a stand to which no drive leads.
        self.assertIs(good(TOLD + [((2, (2, 6), (2,)), 0)]), False)

    def test_a_stand_of_no_place(self):
        for place in (8, FAR, True, False):
            self.assertIs(good(TOLD + [((place, (), ()), 0)]), False)
        for place in (-1, -FAR):
            self.assertIs(good([((place, (), ()), 0)] + TOLD), False)

    def test_a_stand_of_wrong_gates(self):
        for cleared in ((8,), (-1,), (0, 8), (FAR,), (1, 0), (3, 3), (0, 2, 1), (True,), (False, 1)):
            self.assertIs(good(TOLD + [((7, cleared, ()), 0)]), False)
        self.assertIs(good(TOLD + [((7, (0, 1, 2, 3, 4, 5, 6, 7), ()), 0)]), True)

    def test_a_stand_of_wrong_errands(self):
        for left in ((1,), (2, 1), (0, 2), (2, 2), (8,), (-1,), (FAR,), (2, 8), (True,), (False,)):
            self.assertIs(good(TOLD + [((7, (), left), 0)]), False)
        self.assertIs(good(TOLD + [((7, (), (2,)), 0)]), True)
        told = prices(FACTS, NET, 0, [1, 2])
        for left in ((2, 1), (1, 1), (1, 2, 2), (0, 1), (1, 3), (True, 2)):
            self.assertIs(good(told + [((7, (), left), 0)], errands=(1, 2)), False)
        for left in ((1,), (2,), (1, 2)):
            self.assertIs(good(told + [((7, (), left), 0)], errands=(1, 2)), True)
            self.assertIs(good(told + [((7, (), left), 0)], errands=(2, 1)), True)

    def test_an_errand_at_the_beginning_is_one_of_these_too(self):
        self.assertIs(good(TOLD + [((7, (), (0, 2)), 0)], errands=(0, 2)), True)

    def test_true_and_false_are_no_prices(self):
        for at in range(len(TOLD)):
            for truth in (True, False):
                self.assertIs(good(with_price(TOLD, at, truth)), False)

    def test_another_drive(self):
        self.assertIs(good(TOLD, start=1), False)
        self.assertIs(good(TOLD, errands=(1,)), False)
        self.assertIs(good(TOLD, errands=(1, 2)), False)
        self.assertIs(good(TOLD, net=NET + [(0, 2, None)]), False)
        self.assertIs(good(TOLD, net=NET[:2]), True)
        self.assertIs(good(TOLD, horses=2), True)

    def test_no_errands(self):
        self.assertIs(good([((0, (), ()), 0)], errands=()), True)
        self.assertIs(good([((0, (), ()), 1)], errands=()), False)
        self.assertIs(good([((1, (), ()), 0)], errands=()), False)

    def test_errands_that_cannot_be_come_to(self):
        for halves in (0, 5, -5, FAR):
            self.assertIs(good([((0, (), (7,)), halves)], net=[], errands=(7,)), True)
            self.assertIs(good([((0, (), (7,)), halves)], net=NET, errands=(7,)), False)

    def test_by_name_and_left_out(self):
        self.assertIs(good_prices(told=TOLD, errands=[2], start=0, net=NET, facts=FACTS), True)
        doubled = [(stand, 2 * halves) for stand, halves in TOLD]
        self.assertIs(good_prices(day=6, told=doubled, errands=[2], start=0, net=NET, facts=FACTS), True)
        self.assertIs(good_prices(horses=2, told=doubled, errands=[2], start=0, net=NET, facts=FACTS), True)
        self.assertIs(good_prices(FACTS, NET, 0, [2], doubled), False)
        self.assertEqual(prices(day=0, errands=[2], start=0, horses=1, net=NET, facts=FACTS), TOLD)


class Handing(unittest.TestCase):
    def test_nothing_is_changed(self):
        told = copy.deepcopy(TOLD)
        good(told)
        self.assertEqual(told, TOLD)
        told = told[::-1]
        good(told)
        self.assertEqual(told, TOLD[::-1])

    def test_lists_are_new(self):
        prices(FACTS, NET, 0, [2]).clear()
        self.assertEqual(prices(FACTS, NET, 0, [2]), TOLD)


if __name__ == "__main__":
    unittest.main()

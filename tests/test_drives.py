"""Points 13 and 14: what drives pay, and the cheapest one."""

import copy
import unittest

from pikeroll.drives import cheapest, good_prices, pays, prices
from pikeroll.errors import BadDay, BadHorses, BadNet, BadPlace, PikeError

FAR = 10 ** 30 - 1
SUNDAY = 6


def numbered(*told):
    return list(enumerate(told, start=1))


# Each gate asks its own number and one more; gate 5 is dear and its ticket clears the gates 1 to 3.
TOLLS = [("toll", gate, 0, gate + 1) for gate in range(8)]
FACTS = numbered(*TOLLS, ("board", 5, 0, (1, 2, 3)), ("board", 0, 0, (4,)))
# From 0 to 1 three roads, on to 2 and to 3, and a road that leads off to 4.
NET = [(0, 1, 5), (1, 0, 1), (0, 1, 4), (1, 2, 2), (2, 3, 3), (3, 4, 1), (2, 3, 6)]


class Paying(unittest.TestCase):
    def test_a_row_of_one_place(self):
        for net in ([], NET, [(0, 0, 3)]):
            for place in range(8):
                self.assertEqual(pays(FACTS, net, [place]), 0)

    def test_a_road_and_its_gate(self):
        self.assertEqual(pays(FACTS, [(2, 3, 6)], [2, 3]), 7)
        self.assertEqual(pays(FACTS, [(2, 3, 6)], [3, 2]), 7)
        self.assertEqual(pays(FACTS, [(2, 3, 0)], [3, 2]), 1)
        self.assertEqual(pays(FACTS, [(2, 3, None)], [3, 2]), 0)

    def test_the_least_of_several_roads(self):
        self.assertEqual(pays(FACTS, NET, [0, 1]), 2)
        self.assertEqual(pays(FACTS, NET, [2, 3]), 4)
        self.assertEqual(pays(FACTS, [*NET, (1, 0, None)], [0, 1]), 0)

    def test_a_dearer_gate_that_clears_later_ones(self):
        # By gate 1: 2 + 3 = 5; by gate 5: 6 and all the rest free.
        self.assertEqual(pays(FACTS, NET, [0, 1, 2]), 5)
        self.assertEqual(pays(FACTS, NET, [0, 1, 2, 3]), 6)
        self.assertEqual(pays(FACTS, NET, [0, 1, 2, 3, 4]), 6)
        self.assertEqual(pays(FACTS, NET, [4, 3, 2, 1, 0]), 9)

    def test_a_gate_cleared_already(self):
        net = [(0, 1, 3)]
        self.assertEqual(pays(FACTS, net, [0, 1, 0, 1, 0]), 4)
        self.assertEqual(pays(FACTS, [(0, 1, 0), (1, 2, 4)], [0, 1, 2]), 1)
        self.assertEqual(pays(FACTS, [(0, 1, 0), (1, 2, 4)], [2, 1, 0]), 6)

    def test_a_cleared_gate_sells_no_ticket(self):
        # The ticket of gate 1 clears gate 2, so that of gate 2, which clears gate 3, is never bought.
        facts = numbered(("toll", 1, 0, 1), ("toll", 2, 0, 2), ("toll", 3, 0, 10),
                         ("board", 1, 0, (2,)), ("board", 2, 0, (3,)))
        net = [(0, 1, 1), (1, 2, 2), (2, 3, 3)]
        self.assertEqual(pays(facts, net, [0, 1, 2, 3]), 11)
        self.assertEqual(pays(facts, net, [1, 2, 3]), 2)
        self.assertEqual(pays(facts, [*net, (0, 1, 7)], [0, 1, 2, 3]), 2)

    def test_a_ticket_for_nothing_clears_too(self):
        facts = numbered(("board", 4, 0, (5, 6)), ("toll", 5, 0, 9), ("toll", 6, 0, 9), ("toll", 7, 0, 1))
        net = [(0, 1, 4), (0, 1, 7), (1, 2, 5), (2, 3, 6)]
        self.assertEqual(pays(facts, net, [0, 1, 2, 3]), 0)
        self.assertEqual(pays(facts, net, [1, 2, 3]), 18)

    def test_no_road(self):
        self.assertIsNone(pays(FACTS, NET, [0, 2]))
        self.assertIsNone(pays(FACTS, NET, [0, 1, 2, 4]))
        self.assertIsNone(pays(FACTS, NET, [7, 6, 0]))
        self.assertIsNone(pays(FACTS, [], [0, 1]))

    def test_a_place_to_itself(self):
        self.assertIsNone(pays(FACTS, NET, [0, 0]))
        self.assertIsNone(pays(FACTS, NET, [0, 1, 1]))
        net = [(0, 0, 2), (0, 1, 2), (1, 1, None)]
        self.assertEqual(pays(FACTS, net, [0, 0]), 3)
        self.assertEqual(pays(FACTS, net, [0, 0, 0, 1, 1]), 3)
        self.assertEqual(pays(FACTS, [(0, 0, 5), (0, 1, 3), (1, 2, 2)], [0, 0, 1, 2]), 6)
        self.assertEqual(pays(FACTS, [(0, 0, 5), (0, 1, 3), (1, 2, 2)], [0, 1, 2]), 7)

    def test_horses(self):
        for horses in range(1, 9):
            self.assertEqual(pays(FACTS, NET, [0, 1, 2, 3], horses), 6 * horses)
        self.assertEqual(pays(FACTS, NET, [0, 1]), pays(FACTS, NET, [0, 1], 1))

    def test_sundays(self):
        for day in (0, 1, 5, 7, 12, 998):
            self.assertEqual(pays(FACTS, NET, [0, 1, 2], 3, day), 15)
        for day in (6, 13, 993):
            self.assertEqual(pays(FACTS, NET, [0, 1, 2], 3, day), 30)

    def test_tolls_and_boards_of_the_day(self):
        facts = numbered(("toll", 1, 4, 3), ("toll", 2, 4, 5), ("board", 1, 5, (2,)), ("toll", 1, 9, 48))
        net = [(0, 1, 1), (1, 2, 2)]
        told = [pays(facts, net, [0, 1, 2], 1, day) for day in (0, 3, 4, 5, 8, 9, 999)]
        self.assertEqual(told, [0, 0, 8, 3, 3, 48, 48])
        self.assertEqual(pays(facts, net, [0, 1, 2]), 0)

    def test_other_facts_say_nothing(self):
        others = [("folk", carriage, 0, 999) for carriage in range(10)]
        others += [("bargain", gate, carriage, 0, 999) for gate in range(8) for carriage in range(10)]
        others += [("pass", 0, 0, 5, carriage, 8) for carriage in range(10)]
        others += [("trust", 1, 0, 3), ("paid", 0, 0, 1000), ("lost", 1, 0), ("lost", 9, 0)]
        facts = numbered(*TOLLS, ("board", 5, 0, (1, 2, 3)), *others)
        for places in ([0, 1], [0, 1, 2, 3], [4, 3, 2, 1, 0]):
            self.assertEqual(pays(facts, NET, places), pays(FACTS, NET, places))
        self.assertEqual(cheapest(facts, NET, 0, [4]), cheapest(FACTS, NET, 0, [4]))

    def test_no_facts(self):
        self.assertEqual(pays([], NET, [0, 1, 2, 3, 4, 3], 8, SUNDAY), 0)

    def test_twelve_roads(self):
        net = [(place, place + 1, place) for place in range(7)] + [(0, 1, 7)] * 5
        facts = numbered(*TOLLS, ("board", 7, 0, (0, 1, 2, 3, 4, 5, 6)))
        self.assertEqual(len(net), 12)
        self.assertEqual(pays(facts, net, [0, 1]), 1)
        self.assertEqual(pays(facts, net, [0, 1, 2, 3, 4, 5, 6, 7]), 8)

    def test_a_long_row(self):
        self.assertEqual(pays(FACTS, NET, [0, 1] * 100), 2)
        self.assertEqual(pays(FACTS, NET, [0, 1, 2, 3, 4, 3, 2, 1] * 20), 6)


class Cheapest(unittest.TestCase):
    def assert_cheapest(self, told, halves, *ways):
        self.assertIs(type(told), tuple)
        self.assertEqual(told[0], halves)
        self.assertIs(type(told[1]), list)
        self.assertIn(told[1], [list(way) for way in ways])

    def test_no_errands(self):
        for net in ([], NET):
            for start in range(8):
                self.assert_cheapest(cheapest(FACTS, net, start, []), 0, [start])

    def test_an_errand_at_the_beginning(self):
        self.assert_cheapest(cheapest(FACTS, NET, 3, [3]), 0, [3])
        self.assert_cheapest(cheapest(FACTS, [], 3, [3]), 0, [3])
        self.assert_cheapest(cheapest(FACTS, NET, 0, [1, 0]), 2, [0, 1])

    def test_one_errand(self):
        self.assert_cheapest(cheapest(FACTS, NET, 0, [1]), 2, [0, 1])
        self.assert_cheapest(cheapest(FACTS, NET, 0, [2]), 5, [0, 1, 2])
        self.assert_cheapest(cheapest(FACTS, NET, 0, [3]), 6, [0, 1, 2, 3])

    def test_errands_in_any_order(self):
        for errands in ([1, 2, 3], [3, 2, 1], [2, 3, 1], [3, 1, 2]):
            self.assert_cheapest(cheapest(FACTS, NET, 0, errands), 6, [0, 1, 2, 3])
        star = [(0, 1, 1), (0, 2, 2), (0, 3, None)]
        told = cheapest(FACTS, star, 0, [1, 2, 3])
        self.assertEqual(told[0], 5)
        self.assertEqual(pays(FACTS, star, told[1]), 5)
        self.assertEqual(set(told[1]), {0, 1, 2, 3})

    def test_the_order_that_is_cheaper(self):
        # The ticket of gate 5 clears the gate to 2, that of gate 2 clears nothing more.
        net = [(0, 1, 5), (0, 2, 2)]
        self.assert_cheapest(cheapest(FACTS, net, 0, [2, 1]), 6, [0, 1, 0, 2])
        self.assert_cheapest(cheapest(FACTS, net, 0, [1, 2]), 6, [0, 1, 0, 2])

    def test_a_way_about_for_a_ticket(self):
        facts = numbered(("toll", 0, 0, 2), ("toll", 1, 0, 20), ("board", 0, 0, (1,)))
        net = [(0, 1, 1), (0, 2, 0)]
        self.assert_cheapest(cheapest(facts, net, 0, [1]), 2, [0, 2, 0, 1])
        self.assert_cheapest(cheapest(facts, [(0, 1, 1), (0, 0, 0)], 0, [1]), 2, [0, 0, 1])

    def test_the_end_as_soon_as_none_is_left(self):
        net = [(0, 1, None), (1, 2, None), (2, 3, None)]
        self.assert_cheapest(cheapest([], net, 0, [1]), 0, [0, 1])
        told = cheapest([], [(0, 0, None), (0, 1, None), (1, 1, None), (1, 2, None)], 0, [1, 2])
        self.assertEqual((told[1][0], told[1][-1]), (0, 2))
        self.assertEqual(told[1].count(2), 1)

    def test_errands_that_cannot_be_come_to(self):
        self.assertIsNone(cheapest(FACTS, NET, 0, [7]))
        self.assertIsNone(cheapest(FACTS, NET, 0, [1, 7]))
        self.assertIsNone(cheapest(FACTS, NET, 7, [0]))
        self.assertIsNone(cheapest(FACTS, NET, 7, [7, 0]))
        self.assertIsNone(cheapest(FACTS, [], 0, [1]))
        self.assertIsNone(cheapest(FACTS, [(0, 0, 1)], 0, [1]))

    def test_horses_and_sundays(self):
        self.assertEqual(cheapest(FACTS, NET, 0, [3], 4)[0], 24)
        self.assertEqual(cheapest(FACTS, NET, 0, [3], 4, SUNDAY)[0], 48)
        self.assertEqual(cheapest(FACTS, NET, 0, [3]), cheapest(FACTS, NET, 0, [3], 1, 0))
        self.assertEqual(cheapest(FACTS, NET, 0, [3], day=SUNDAY)[0], 12)

    def test_a_toll_of_nought(self):
        net = [(0, 1, 7), (0, 1, 6), (1, 2, 7)]
        self.assert_cheapest(cheapest(numbered(("toll", 6, 0, 2)), net, 0, [2], 8), 0, [0, 1, 2])


class Refusals(unittest.TestCase):
    """The four functions, each asked for the same wrong things."""

    def asks(self, net, start, errands, horses, day):
        yield lambda: cheapest(FACTS, net, start, errands, horses, day)
        yield lambda: prices(FACTS, net, start, errands, horses, day)
        yield lambda: good_prices(FACTS, net, start, errands, [], horses, day)
        yield lambda: good_prices(FACTS, net, start, errands, [((9, (9,), ()), -1)], horses, day)

    def assert_raises(self, error, ask):
        with self.assertRaises(error) as caught:
            ask()
        self.assertIs(type(caught.exception), error)
        self.assertIsInstance(caught.exception, PikeError)

    def assert_refused(self, error, net=NET, start=0, errands=(1,), horses=1, day=0):
        for ask in self.asks(net, start, list(errands), horses, day):
            with self.subTest(net=net, start=start, errands=errands, horses=horses, day=day):
                self.assert_raises(error, ask)

    def assert_pays_refused(self, error, net=NET, places=(0, 1), horses=1, day=0):
        with self.subTest(net=net, places=places, horses=horses, day=day):
            self.assert_raises(error, lambda: pays(FACTS, net, list(places), horses, day))

    def test_nets(self):
        wrong = [[(0, 1, None)] * 13, [(0, 1, 2)] * 30, [*NET, (0, 8, None)], [(-1, 0, 1)], [(0, 1, 8)], [(0, 1, -1)]]
        for number in (FAR, -FAR, True, False):
            wrong += [[(number, 0, 1)], [(0, number, 1)], [(0, 1, number)]]
        for net in wrong:
            self.assert_refused(BadNet, net=net)
            self.assert_pays_refused(BadNet, net=net)

    def test_places(self):
        for place in (-1, 8, FAR, -FAR, True, False):
            self.assert_refused(BadPlace, start=place)
            self.assert_refused(BadPlace, start=place, errands=())
            self.assert_refused(BadPlace, errands=(place,))
            self.assert_refused(BadPlace, errands=(1, 2, place))
            self.assert_refused(BadPlace, errands=(place, place, place, place))
            self.assert_pays_refused(BadPlace, places=(place,))
            self.assert_pays_refused(BadPlace, places=(0, place))
            self.assert_pays_refused(BadPlace, places=(0, 1, place, 1))
            self.assert_pays_refused(BadPlace, net=[], places=(0, 7, place))

    def test_no_places(self):
        self.assert_pays_refused(BadPlace, places=())
        self.assert_pays_refused(BadPlace, net=[], places=())

    def test_errands(self):
        self.assert_refused(BadPlace, errands=(1, 2, 3, 4))
        self.assert_refused(BadPlace, errands=(0, 1, 2, 3))
        self.assert_refused(BadPlace, errands=(1, 1))
        self.assert_refused(BadPlace, errands=(0, 0))
        self.assert_refused(BadPlace, errands=(1, 2, 1))
        self.assert_refused(BadPlace, errands=(7, 7), start=7)
        self.assertEqual(cheapest(FACTS, NET, 0, [1, 2, 3])[0], 6)

    def test_horses(self):
        for horses in (0, 9, -1, FAR, -FAR, True, False):
            self.assert_refused(BadHorses, horses=horses)
            self.assert_refused(BadHorses, errands=(), horses=horses)
            self.assert_pays_refused(BadHorses, horses=horses)
            self.assert_pays_refused(BadHorses, places=(0,), horses=horses)
        for horses in (1, 8):
            self.assertEqual(pays(FACTS, NET, [0, 1], horses), 2 * horses)

    def test_days(self):
        for day in (-1, 1000, FAR, -FAR, True, False):
            self.assert_refused(BadDay, day=day)
            self.assert_refused(BadDay, errands=(), day=day)
            self.assert_pays_refused(BadDay, day=day)
            self.assert_pays_refused(BadDay, places=(0, 7), day=day)
        self.assertEqual(pays(FACTS, NET, [0, 1], 1, 999), 2)

    def test_the_one_told_first_goes(self):
        bad_net = [(0, 8, None)]
        self.assert_refused(BadNet, net=bad_net, start=8, errands=(9, 9), horses=0, day=-1)
        self.assert_refused(BadPlace, start=8, horses=0, day=-1)
        self.assert_refused(BadPlace, errands=(2, 2), horses=0, day=-1)
        self.assert_refused(BadPlace, errands=(1, 2, 3, 4), horses=9, day=1000)
        self.assert_refused(BadHorses, horses=9, day=1000)
        self.assert_refused(BadNet, net=bad_net, day=1000)
        self.assert_pays_refused(BadNet, net=bad_net, places=(), horses=0, day=-1)
        self.assert_pays_refused(BadPlace, places=(), horses=0, day=-1)
        self.assert_pays_refused(BadPlace, places=(0, 1, 9), horses=0, day=1000)
        self.assert_pays_refused(BadHorses, places=(0, 7), horses=0, day=1000)


class Handing(unittest.TestCase):
    def test_by_name_in_any_order(self):
        self.assertEqual(pays(day=SUNDAY, horses=2, places=[0, 1], net=NET, facts=FACTS), 8)
        self.assertEqual(cheapest(day=SUNDAY, errands=[1], start=0, horses=2, net=NET, facts=FACTS), (8, [0, 1]))

    def test_nothing_is_changed(self):
        handed = [copy.deepcopy(FACTS), list(NET), [3, 1, 2], [0, 1, 2]]
        for _ in range(2):
            cheapest(handed[0], handed[1], 0, handed[2])
            prices(handed[0], handed[1], 0, handed[2])
            good_prices(handed[0], handed[1], 0, handed[2], [])
            pays(handed[0], handed[1], handed[3])
        self.assertEqual(handed, [FACTS, NET, [3, 1, 2], [0, 1, 2]])

    def test_lists_are_new(self):
        told = cheapest(FACTS, NET, 0, [3])
        told[1].clear()
        self.assertEqual(cheapest(FACTS, NET, 0, [3]), (6, [0, 1, 2, 3]))

    def test_asked_anew_each_time(self):
        net, errands = [(0, 1, 2)], [1]
        self.assertEqual(cheapest(FACTS, net, 0, errands), (3, [0, 1]))
        net[0] = (0, 1, 3)
        self.assertEqual(cheapest(FACTS, net, 0, errands), (4, [0, 1]))
        errands.append(2)
        self.assertIsNone(cheapest(FACTS, net, 0, errands))


if __name__ == "__main__":
    unittest.main()

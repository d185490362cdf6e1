"""Point 16, and what point 13 says of nets."""

import copy
import itertools
import unittest

from pikeroll.errors import BadNet, BadPlace, PikeError
from pikeroll.nets import barred, way_round

FAR = 10 ** 30 - 1

# A ring of five places, with a road across and one that leads off.
RING = [(0, 1, 0), (1, 2, None), (2, 3, 1), (3, 4, 2), (4, 0, None), (1, 3, 3), (3, 5, 0)]


def every_way(net, gates, one, other):
    """The places of each way that comes to no place twice, looked for the slow way."""
    passable = [road for road in net if road[2] is None or road[2] not in gates]
    found = []
    ways = [(one,)]
    while ways:
        way = ways.pop()
        if way[-1] == other:
            found.append(list(way))
            continue
        for here, there, _ in passable + [(there, here, gate) for here, there, gate in passable]:
            if here == way[-1] and there not in way:
                ways.append(way + (there,))
    return found


class NetCase(unittest.TestCase):
    def assert_barred(self, net, gates, one, other):
        self.assertIs(barred(net, gates, one, other), True)
        self.assertIsNone(way_round(net, gates, one, other))

    def assert_way(self, net, gates, one, other, *ways):
        self.assertIs(barred(net, gates, one, other), False)
        self.assertIn(way_round(net, gates, one, other), [list(way) for way in ways])


class Ways(NetCase):
    def test_no_gates(self):
        self.assert_way(RING, [], 0, 1, (0, 1))
        self.assert_way(RING, [], 0, 2, (0, 1, 2))
        self.assert_way(RING, [], 5, 0, (5, 3, 1, 0), (5, 3, 4, 0))

    def test_round_a_gate(self):
        self.assert_way(RING, [0], 0, 1, (0, 4, 3, 1))
        self.assert_way(RING, [3], 1, 3, (1, 2, 3))
        self.assert_way(RING, [0, 3], 0, 1, (0, 4, 3, 2, 1))

    def test_barred(self):
        self.assert_barred(RING, [0, 2], 0, 1)
        self.assert_barred(RING, [0], 5, 3)
        self.assert_barred(RING, [0], 4, 5)
        self.assert_barred(RING, [1, 2, 3], 0, 3)
        self.assert_way(RING, [1, 2], 0, 3, (0, 1, 3))

    def test_no_way_at_all(self):
        self.assert_barred(RING, [], 0, 6)
        self.assert_barred(RING, [], 7, 6)
        self.assert_barred([], [], 0, 1)
        self.assert_barred([(0, 1, None), (2, 3, None)], [], 1, 2)

    def test_a_place_from_itself(self):
        gates = [0, 1, 2, 3, 4, 5, 6, 7]
        for net in ([], RING, [(0, 0, 1)], [(4, 4, None)]):
            for place in range(8):
                self.assert_way(net, [], place, place, (place,))
                self.assert_way(net, gates, place, place, (place,))

    def test_a_road_goes_both_ways(self):
        for road in ((2, 6, None), (6, 2, None), (2, 6, 4), (6, 2, 4)):
            self.assert_way([road], [], 2, 6, (2, 6))
            self.assert_way([road], [3], 6, 2, (6, 2))
        self.assert_barred([(2, 6, 4)], [4], 2, 6)
        self.assert_barred([(2, 6, 4)], [4], 6, 2)

    def test_a_road_from_a_place_to_itself(self):
        net = [(1, 1, None), (1, 2, 5), (2, 2, 6)]
        self.assert_way(net, [], 1, 2, (1, 2))
        self.assert_way(net, [6], 2, 1, (2, 1))
        self.assert_barred(net, [5], 1, 2)
        self.assert_barred([(1, 1, None)], [], 1, 2)

    def test_a_road_twice_with_unlike_gates(self):
        net = [(0, 1, 3), (1, 0, 4)]
        for gates in ([], [3], [4], [5]):
            self.assert_way(net, gates, 0, 1, (0, 1))
            self.assert_way(net, gates, 1, 0, (1, 0))
        self.assert_barred(net, [4, 3], 0, 1)
        self.assert_way(net + [(0, 1, None)], [3, 4], 0, 1, (0, 1))

    def test_roads_without_a_gate_are_never_barred(self):
        self.assert_way([(0, 1, None)], [0, 1, 2, 3, 4, 5, 6, 7, -1, 8], 0, 1, (0, 1))

    def test_gate_nought_bars_too(self):
        self.assert_barred([(0, 1, 0)], [0], 0, 1)
        self.assert_way([(0, 1, 0)], [1], 0, 1, (0, 1))

    def test_twelve_roads(self):
        net = [(place, place + 1, place) for place in range(7)] + [(0, 7, 7)] * 5
        self.assertEqual(len(net), 12)
        self.assert_way(net, [], 0, 7, (0, 7))
        self.assert_way(net, [7], 0, 7, range(8))
        self.assert_way(net, [7], 7, 0, range(7, -1, -1))
        self.assert_barred(net, [7, 4], 0, 7)

    def test_gates_that_are_none(self):
        for gates in ([8], [-1], [FAR, -FAR], [8, 8, 9], [255]):
            self.assert_way(RING, gates, 5, 3, (5, 3))
        self.assert_barred(RING, [-1, 0, 8, 0, FAR], 5, 3)

    def test_true_and_false_are_no_gates(self):
        self.assert_way([(0, 1, 1)], [True], 0, 1, (0, 1))
        self.assert_way([(0, 1, 0)], [False], 0, 1, (0, 1))

    def test_against_every_way(self):
        for net in (RING, RING[::-1], [(other, one, gate) for one, other, gate in RING],
                    [(0, 1, 0), (1, 2, 1), (2, 0, 2), (2, 3, 0), (3, 4, 1), (4, 2, None), (4, 5, 2), (5, 5, None),
                     (5, 6, 3), (6, 7, None), (7, 5, 2), (7, 0, 1)]):
            for many in range(4):
                for gates in itertools.combinations(range(5), many):
                    for one, other in itertools.product(range(8), repeat=2):
                        ways = every_way(net, gates, one, other)
                        fewest = min([len(way) for way in ways], default=0)
                        told = way_round(net, list(gates), one, other)
                        if ways:
                            self.assertIn(told, [way for way in ways if len(way) == fewest])
                        else:
                            self.assertIsNone(told)
                        self.assertIs(barred(net, list(gates), one, other), not ways)


class Refusals(unittest.TestCase):
    def assert_refused(self, error, net, gates, one, other):
        for ask in (barred, way_round):
            with self.subTest(ask=ask.__name__, net=net, one=one, other=other):
                with self.assertRaises(error) as caught:
                    ask(net, gates, one, other)
                self.assertIs(type(caught.exception), error)
                self.assertIsInstance(caught.exception, PikeError)

    def test_too_many_roads(self):
        self.assert_refused(BadNet, [(0, 1, None)] * 13, [], 0, 1)
        self.assert_refused(BadNet, [(0, 1, 7)] * 40, [7], 0, 0)
        self.assertFalse(barred([(0, 1, None)] * 12, [], 0, 1))

    def test_roads_with_a_place_that_is_none(self):
        for place in (-1, 8, FAR, -FAR, True, False, None):
            for road in ((place, 0, None), (0, place, None), (place, place, 0)):
                for net in ([road], RING + [road], [road] + RING):
                    self.assert_refused(BadNet, net, [], 0, 1)

    def test_roads_with_a_gate_that_is_none(self):
        for gate in (-1, 8, FAR, -FAR, True, False):
            for net in ([(0, 1, gate)], [(3, 3, gate)], RING + [(0, 1, gate)]):
                self.assert_refused(BadNet, net, [gate], 0, 0)

    def test_borders_of_a_road(self):
        self.assertEqual(way_round([(0, 7, 0), (7, 0, 7)], [0], 0, 7), [0, 7])

    def test_places_that_are_none(self):
        for place in (-1, 8, FAR, -FAR, True, False):
            self.assert_refused(BadPlace, RING, [], place, 0)
            self.assert_refused(BadPlace, RING, [], 0, place)
            self.assert_refused(BadPlace, [], [], place, place)

    def test_the_net_goes_first(self):
        for net in ([(0, 8, None)], [(0, 1, 8)], [(0, 1, 1)] * 13, RING + [(-1, 0, 9)]):
            self.assert_refused(BadNet, net, [], 8, -1)
            self.assert_refused(BadNet, net, [], 0, 8)
            self.assert_refused(BadNet, net, [], -1, 0)


class Handing(unittest.TestCase):
    def test_by_name_in_any_order(self):
        self.assertEqual(way_round(other=2, one=1, gates=[], net=RING), [1, 2])
        self.assertIs(barred(one=3, gates=[0], other=5, net=RING), True)

    def test_nothing_is_changed(self):
        net, gates = copy.deepcopy(RING), [3, 0, 3, 99]
        for ask in (barred, way_round):
            ask(net, gates, 5, 0)
            ask(net, gates, 0, 2)
        self.assertEqual((net, gates), (RING, [3, 0, 3, 99]))

    def test_lists_are_new(self):
        for one, other in ((0, 2), (4, 4)):
            told, again = way_round(RING, [], one, other), way_round(RING, [], one, other)
            self.assertIs(type(told), list)
            self.assertEqual(told, again)
            told.append(9)
            self.assertNotEqual(told, again)
            self.assertEqual(way_round(RING, [], one, other), again)

    def test_asked_anew_each_time(self):
        net = [(0, 1, 2)]
        self.assertFalse(barred(net, [], 0, 1))
        net[0] = (0, 2, 2)
        self.assertTrue(barred(net, [], 0, 1))
        net.extend([(0, 8, 2)])
        with self.assertRaises(BadNet):
            barred(net, [], 0, 1)
        net.pop()
        self.assertTrue(barred(net, [], 0, 1))


if __name__ == "__main__":
    unittest.main()

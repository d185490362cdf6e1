"""Points 5 and 6, and what point 2 says of facts."""

import copy
import unittest

from pikeroll.errors import BadFact
from pikeroll.facts import board_on, need_fact, toll_on, trust_on

FAR = 10 ** 30 - 1

# For each first text its things: the name of their kind, the least and the greatest.
GATE, CARRIAGE, TRUST = ("gate", 0, 7), ("carriage", 0, 9), ("trust", 0, 3)
DAY, MINUTE, HORSES = ("day", 0, 999), ("minute", 0, 1439), ("horses", 1, 8)
THINGS = {
    "toll": [GATE, DAY, ("halves", 0, 48)],
    "board": [GATE, DAY, ("gates", (), (0, 1, 2, 3, 4, 5, 6, 7))],
    "trust": [GATE, DAY, TRUST],
    "folk": [CARRIAGE, DAY, DAY],
    "bargain": [GATE, CARRIAGE, DAY, DAY],
    "pass": [DAY, MINUTE, GATE, CARRIAGE, HORSES],
    "lost": [("number", 1, FAR), MINUTE],
    "paid": [CARRIAGE, DAY, ("halves", 0, 100000)],
}
GOOD = [
    ("toll", 2, 5, 6), ("board", 2, 0, (1, 4)), ("trust", 3, 10, 2), ("folk", 4, 5, 6),
    ("bargain", 1, 2, 30, 40), ("pass", 12, 600, 3, 9, 2), ("lost", 7, 100), ("paid", 4, 20, 300),
]


class FactCase(unittest.TestCase):
    def assert_good(self, fact):
        with self.subTest(fact):
            self.assertIsNone(need_fact(fact))

    def assert_wrong(self, fact, place):
        with self.subTest(fact):
            with self.assertRaises(BadFact) as caught:
                need_fact(fact)
            self.assertEqual(caught.exception.place, place)


class GoodFacts(FactCase):
    def test_all_eight(self):
        for fact in GOOD:
            self.assert_good(fact)
        self.assertIsNone(need_fact(fact=GOOD[0]))

    def test_at_each_border(self):
        for word, things in THINGS.items():
            self.assert_good((word, *[least for _, least, _ in things]))
            self.assert_good((word, *[greatest for _, _, greatest in things]))

    def test_last_day_ahead_of_the_first(self):
        self.assert_good(("folk", 0, 9, 3))
        self.assert_good(("bargain", 0, 0, 999, 0))

    def test_boards(self):
        for gates in ((), (0,), (7,), (2,), (1, 2), (0, 7), (0, 1, 2, 3, 4, 5, 6, 7)):
            self.assert_good(("board", 2, 0, gates))

    def test_lost_has_no_greatest_number(self):
        self.assert_good(("lost", FAR, 0))
        self.assert_good(("lost", FAR * 10, 0))


class WrongFacts(FactCase):
    def test_one_beyond_each_border(self):
        for fact in GOOD:
            for place, (kind, least, greatest) in enumerate(THINGS[fact[0]], start=1):
                if kind == "gates":
                    continue
                for number in (least - 1, -FAR):
                    self.assert_wrong(fact[:place] + (number,) + fact[place + 1:], place)
                if kind != "number":
                    for number in (greatest + 1, FAR):
                        self.assert_wrong(fact[:place] + (number,) + fact[place + 1:], place)

    def test_true_and_false_are_no_numbers(self):
        for fact in GOOD:
            for place in range(1, len(fact)):
                for truth in (True, False):
                    self.assert_wrong(fact[:place] + (truth,) + fact[place + 1:], place)
        self.assert_wrong(("board", 2, 0, (False, 1)), 3)
        self.assert_wrong(("board", 2, 0, (0, True)), 3)

    def test_boards(self):
        for gates in ((8,), (-1,), (0, 8), (-1, 0), (FAR,), (1, 0), (1, 1), (0, 2, 2), (0, 2, 1, 3),
                      (7, 6), (0, 1, 2, 3, 4, 5, 6, 7, 8), (0, 1, 2, 3, 4, 5, 6, 7, 7)):
            self.assert_wrong(("board", 2, 0, gates), 3)

    def test_a_board_has_a_tuple_of_numbers(self):
        for gates in (3, -1, [1, 2], None, "12", (1, (2,)), ("1",)):
            self.assert_wrong(("board", 2, 0, gates), 3)

    def test_another_first_text(self):
        for word in ("", "Toll", "TOLL", "toll ", " toll", "tolls", "gate", "passing", "struck", "number",
                     "day", "gates", "payment"):
            for rest in ((), (0,), (0, 0), (0, 0, 0), (0, 0, (1, 2)), (0, 0, ()), (0, 0, 0, 0), (9, 9, 9)):
                self.assert_wrong((word, *rest), 0)

    def test_a_thing_fewer_or_more(self):
        for fact in GOOD:
            self.assert_wrong(fact[:1], 0)
            self.assert_wrong(fact[:-1], 0)
            self.assert_wrong(fact + (0,), 0)
            self.assert_wrong(fact + (0, 0, 0), 0)

    def test_count_goes_ahead_of_bounds(self):
        self.assert_wrong(("toll", 8, 1000), 0)
        self.assert_wrong(("toll", 8, 1000, 49, 1), 0)
        self.assert_wrong(("board", 8, 0, (2, 1), 0), 0)
        self.assert_wrong(("lost", 0), 0)

    def test_of_several_wrong_things_the_first_place(self):
        self.assert_wrong(("toll", 8, 1000, 49), 1)
        self.assert_wrong(("toll", 7, 1000, 49), 2)
        self.assert_wrong(("board", 8, 0, (2, 1)), 1)
        self.assert_wrong(("board", 0, -1, (2, 1)), 2)
        self.assert_wrong(("trust", 0, -1, 4), 2)
        self.assert_wrong(("folk", 10, -1, 1000), 1)
        self.assert_wrong(("folk", 9, 1000, 1000), 2)
        self.assert_wrong(("bargain", 8, 10, 0, 0), 1)
        self.assert_wrong(("bargain", 7, 10, -1, 0), 2)
        self.assert_wrong(("bargain", 7, 9, 1000, -1), 3)
        self.assert_wrong(("pass", 1000, 1440, 8, 10, 9), 1)
        self.assert_wrong(("pass", 999, 1440, 8, 10, 9), 2)
        self.assert_wrong(("pass", 999, 1439, 8, 10, 9), 3)
        self.assert_wrong(("pass", 999, 1439, 7, 10, 9), 4)
        self.assert_wrong(("pass", 999, 1439, 7, 9, 9), 5)
        self.assert_wrong(("lost", 0, 1440), 1)
        self.assert_wrong(("paid", 10, 0, 100001), 1)
        self.assert_wrong(("paid", 9, 1000, 100001), 2)

    def test_refused_again_and_good_ones_still_good(self):
        for _ in range(2):
            self.assert_wrong(("toll", 8, 0, 0), 1)
            self.assert_good(("toll", 7, 0, 0))


class Holding(unittest.TestCase):
    """What holds, asked alike of tolls, boards and trusts."""

    def test_no_facts(self):
        for gate in range(8):
            for day in (0, 1, 999):
                self.assertEqual(toll_on([], gate, day), 0)
                self.assertEqual(board_on([], gate, day), (gate,))
                self.assertEqual(trust_on([], gate, day), 0)

    def test_ahead_on_and_behind_its_day(self):
        facts = [(1, ("toll", 2, 5, 6)), (2, ("board", 2, 5, (0, 3))), (3, ("trust", 2, 5, 3))]
        self.assertEqual(toll_on(facts, 2, 4), 0)
        self.assertEqual(board_on(facts, 2, 4), (2,))
        self.assertEqual(trust_on(facts, 2, 4), 0)
        for day in (5, 6, 999):
            self.assertEqual(toll_on(facts, 2, day), 6)
            self.assertEqual(board_on(facts, 2, day), (0, 2, 3))
            self.assertEqual(trust_on(facts, 2, day), 3)

    def test_from_the_first_day_to_the_last(self):
        facts = [(1, ("toll", 0, 0, 48)), (2, ("toll", 0, 999, 1))]
        self.assertEqual([toll_on(facts, 0, day) for day in (0, 998, 999)], [48, 48, 1])

    def test_the_latest_day_goes_ahead_of_a_greater_number(self):
        facts = [
            (1, ("toll", 2, 8, 6)), (2, ("toll", 2, 3, 4)), (3, ("trust", 2, 8, 1)), (4, ("trust", 2, 3, 2)),
            (5, ("board", 2, 8, (1,))), (6, ("board", 2, 3, (7,))), (9, ("toll", 2, 20, 9)),
        ]
        self.assertEqual([toll_on(facts, 2, day) for day in (2, 3, 7, 8, 19, 20)], [0, 4, 4, 6, 6, 9])
        self.assertEqual([trust_on(facts, 2, day) for day in (2, 3, 7, 8)], [0, 2, 2, 1])
        self.assertEqual([board_on(facts, 2, day) for day in (2, 3, 7, 8)], [(2,), (2, 7), (2, 7), (1, 2)])

    def test_of_one_day_the_greatest_number(self):
        facts = [
            (3, ("toll", 2, 8, 6)), (4, ("trust", 2, 8, 3)), (5, ("board", 2, 8, (0, 1))),
            (9, ("toll", 2, 8, 2)), (10, ("trust", 2, 8, 1)), (11, ("board", 2, 8, ())),
        ]
        self.assertEqual(toll_on(facts, 2, 8), 2)
        self.assertEqual(trust_on(facts, 2, 8), 1)
        self.assertEqual(board_on(facts, 2, 8), (2,))

    def test_told_nought_holds_too(self):
        facts = [(1, ("toll", 2, 3, 6)), (2, ("toll", 2, 5, 0)), (3, ("trust", 2, 3, 2)), (4, ("trust", 2, 5, 0)),
                 (5, ("board", 2, 3, (6,))), (6, ("board", 2, 5, ()))]
        self.assertEqual([toll_on(facts, 2, day) for day in (4, 5)], [6, 0])
        self.assertEqual([trust_on(facts, 2, day) for day in (4, 5)], [2, 0])
        self.assertEqual([board_on(facts, 2, day) for day in (4, 5)], [(2, 6), (2,)])

    def test_other_gates_and_other_facts_say_nothing(self):
        facts = [(number, fact) for number, fact in enumerate(GOOD, start=1) if fact[0] not in ("toll", "board")]
        facts = facts + [(20, ("toll", 3, 0, 5)), (21, ("board", 3, 0, (1,)))]
        self.assertEqual(toll_on(facts, 2, 999), 0)
        self.assertEqual(board_on(facts, 2, 999), (2,))
        self.assertEqual(trust_on(facts, 4, 999), 0)
        self.assertEqual(trust_on(facts, 3, 999), 2)

    def test_a_toll_is_no_trust_and_a_trust_no_toll(self):
        self.assertEqual(trust_on([(1, ("toll", 2, 0, 3))], 2, 5), 0)
        self.assertEqual(toll_on([(1, ("trust", 2, 0, 3))], 2, 5), 0)
        self.assertEqual(board_on([(1, ("trust", 2, 0, 3))], 2, 5), (2,))

    def test_each_gate_and_trust(self):
        facts = [(gate + 1, ("trust", gate, 0, gate % 4)) for gate in range(8)]
        self.assertEqual([trust_on(facts, gate, 0) for gate in range(8)], [0, 1, 2, 3, 0, 1, 2, 3])


class Boards(unittest.TestCase):
    def test_its_own_gate_stands_where_it_rises(self):
        boards = {(): (3,), (3,): (3,), (0, 1): (0, 1, 3), (5, 7): (3, 5, 7), (1, 3, 6): (1, 3, 6),
                  (2, 4): (2, 3, 4), (0, 1, 2, 3, 4, 5, 6, 7): (0, 1, 2, 3, 4, 5, 6, 7)}
        for named, told in boards.items():
            with self.subTest(named):
                facts = [(1, ("board", 3, 0, named))]
                self.assertEqual(board_on(facts, 3, 0), told)
                self.assertIsInstance(board_on(facts, 3, 0), tuple)

    def test_a_later_board_stands_for_the_whole(self):
        facts = [(1, ("board", 3, 0, (0, 1))), (2, ("board", 3, 4, (6,)))]
        self.assertEqual(board_on(facts, 3, 4), (3, 6))


class Asking(unittest.TestCase):
    def test_nothing_handed_in_is_changed(self):
        facts = [(1, ("toll", 2, 5, 6)), (2, ("board", 2, 5, (0, 3))), (3, ("trust", 2, 5, 3))]
        kept = copy.deepcopy(facts)
        for _ in range(2):
            self.assertEqual(toll_on(facts, 2, 5), 6)
            self.assertEqual(board_on(facts, 2, 5), (0, 2, 3))
            self.assertEqual(trust_on(facts, 2, 5), 3)
        self.assertEqual(facts, kept)

    def test_a_changed_list_is_asked_anew(self):
        facts = [(1, ("toll", 2, 5, 6))]
        self.assertEqual(toll_on(facts, 2, 5), 6)
        facts.append((2, ("toll", 2, 5, 8)))
        self.assertEqual(toll_on(facts, 2, 5), 8)
        facts.clear()
        self.assertEqual(toll_on(facts, 2, 5), 0)

    def test_handed_in_by_name_in_any_order(self):
        facts = [(1, ("toll", 2, 5, 6)), (2, ("board", 2, 5, (0, 3))), (3, ("trust", 2, 5, 3))]
        self.assertEqual(toll_on(day=5, gate=2, facts=facts), 6)
        self.assertEqual(board_on(gate=2, facts=facts, day=5), (0, 2, 3))
        self.assertEqual(trust_on(day=5, facts=facts, gate=2), 3)


if __name__ == "__main__":
    unittest.main()

"""Point 7: a day's rows, and what points 1 and 2 say of them."""

import copy
import unittest

from pikeroll.errors import BadDay, Missing, NoCarriage, NoPassing, PikeError
from pikeroll.walk import day_walk, row_of

FAR = 10 ** 30 - 1


def numbered(*told):
    return list(enumerate(told, start=1))


def passing(minute, gate, horses=1, day=0, carriage=0):
    return ("pass", day, minute, gate, carriage, horses)


class Order(unittest.TestCase):
    def test_by_minutes_not_by_numbers(self):
        facts = numbered(passing(900, 0), passing(30, 1), passing(1439, 2), passing(0, 3), passing(400, 4))
        self.assertEqual([row[0] for row in day_walk(facts, 0)], [4, 2, 5, 1, 3])

    def test_of_one_minute_by_numbers(self):
        facts = numbered(passing(60, 5), passing(60, 4), passing(59, 3), passing(60, 2), passing(60, 1, 8))
        self.assertEqual([row[0] for row in day_walk(facts, 0)], [3, 1, 2, 4, 5])

    def test_of_one_minute_the_greater_number_goes_by_the_ticket(self):
        facts = numbered(("toll", 6, 0, 5), passing(60, 6), passing(60, 6))
        self.assertEqual(day_walk(facts, 0), [(2, "owed", None, 5), (3, "ticket", 2, 0)])
        facts = [(1, ("toll", 6, 0, 5)), (9, passing(60, 6)), (10, passing(60, 6))]
        self.assertEqual(day_walk(facts, 0), [(9, "owed", None, 5), (10, "ticket", 9, 0)])

    def test_a_ticket_told_behind_what_it_clears(self):
        facts = numbered(("toll", 3, 0, 4), passing(700, 3), passing(699, 3), passing(701, 3))
        self.assertEqual(day_walk(facts, 0), [(3, "owed", None, 4), (2, "ticket", 3, 0), (4, "ticket", 3, 0)])

    def test_numbers_with_gaps(self):
        facts = [(4, passing(8, 1)), (17, ("toll", 1, 0, 2)), (18, passing(7, 2)), (40, passing(9, 1))]
        self.assertEqual(day_walk(facts, 0), [(18, "owed", None, 0), (4, "owed", None, 2), (40, "ticket", 4, 0)])

    def test_one_carriage_and_one_day_alone(self):
        facts = numbered(passing(1, 0), passing(2, 0, day=1), passing(3, 0, carriage=1), passing(4, 0, 2, 1, 1))
        self.assertEqual([row[0] for row in day_walk(facts, 0, 0)], [1])
        self.assertEqual([row[0] for row in day_walk(facts, 0, 1)], [2])
        self.assertEqual([row[0] for row in day_walk(facts, 1, 0)], [3])
        self.assertEqual([row[0] for row in day_walk(facts, 1, 1)], [4])
        self.assertEqual(day_walk(facts, 2, 0), [])
        self.assertEqual(day_walk(facts, 0, 2), [])

    def test_no_passings(self):
        self.assertEqual(day_walk([], 0), [])
        facts = numbered(("toll", 0, 0, 3), ("paid", 0, 0, 4), ("folk", 0, 0, 9), ("lost", 1, 0), ("trust", 0, 0, 0),
                         ("bargain", 0, 0, 0, 9), ("board", 0, 0, (0, 1)))
        self.assertEqual(day_walk(facts, 0), [])

    def test_many(self):
        facts = numbered(("toll", 2, 0, 3), *[passing(1000 - late, 2, 1 + late % 8) for late in range(200)])
        rows = day_walk(facts, 0)
        self.assertEqual([row[0] for row in rows], list(range(201, 1, -1)))
        # 199 % 8 is 7: the first one in the order has eight horses, and clears all others.
        self.assertEqual(rows[0], (201, "owed", None, 24))
        self.assertEqual({row[1:] for row in rows[1:]}, {("ticket", 201, 0)})


class Owed(unittest.TestCase):
    def test_toll_times_horses(self):
        for asked in (0, 1, 7, 48):
            for horses in range(1, 9):
                facts = numbered(("toll", 4, 0, asked), passing(5, 4, horses))
                self.assertEqual(day_walk(facts, 0), [(2, "owed", None, asked * horses)])

    def test_the_toll_of_that_day_and_gate(self):
        facts = numbered(("toll", 1, 10, 5), ("toll", 1, 12, 6), ("toll", 2, 0, 40), ("toll", 1, 12, 7),
                         *[passing(0, 1, 2, day) for day in (9, 10, 11, 12, 14)])
        told = [day_walk(facts, 0, day)[0][3] for day in (9, 10, 11, 12, 14)]
        self.assertEqual(told, [0, 10, 10, 14, 14])

    def test_sundays_and_days_beside(self):
        for day in list(range(0, 30)) + [992, 993, 994, 998, 999]:
            facts = numbered(("toll", 0, 0, 5), passing(3, 0, 3, day))
            halves = 30 if day in (6, 13, 20, 27, 993) else 15
            self.assertEqual(day_walk(facts, 0, day), [(2, "owed", None, halves)])

    def test_no_toll_is_told(self):
        self.assertEqual(day_walk(numbered(passing(0, 7, 8, 6)), 0, 6), [(1, "owed", None, 0)])

    def test_a_ticket_for_nought_clears(self):
        facts = numbered(passing(0, 1), ("board", 1, 0, (2,)), ("toll", 2, 0, 48), passing(1, 2), passing(2, 1))
        self.assertEqual(day_walk(facts, 0), [(1, "owed", None, 0), (4, "ticket", 1, 0), (5, "ticket", 1, 0)])
        facts.append((6, ("toll", 1, 0, 0)))
        self.assertEqual(day_walk(facts, 0)[1:], [(4, "ticket", 1, 0), (5, "ticket", 1, 0)])


class Free(unittest.TestCase):
    def walked(self, *told, day=5):
        facts = numbered(("toll", 3, 0, 4), passing(10, 3, 1, day), *told)
        return day_walk(facts, 0, day)

    def test_folk_from_the_first_day_to_the_last(self):
        for first, last in ((0, 999), (5, 5), (0, 5), (5, 999), (4, 6)):
            self.assertEqual(self.walked(("folk", 0, first, last)), [(2, "folk", None, 0)])
        for first, last in ((6, 9), (0, 4), (6, 6), (4, 4), (6, 4), (6, 5), (5, 4), (999, 0)):
            self.assertEqual(self.walked(("folk", 0, first, last)), [(2, "owed", None, 4)])

    def test_bargain_from_the_first_day_to_the_last(self):
        for first, last in ((0, 999), (5, 5), (0, 5), (5, 999), (4, 6)):
            self.assertEqual(self.walked(("bargain", 3, 0, first, last)), [(2, "bargain", None, 0)])
        for first, last in ((6, 9), (0, 4), (6, 6), (4, 4), (6, 4), (6, 5), (5, 4), (999, 0)):
            self.assertEqual(self.walked(("bargain", 3, 0, first, last)), [(2, "owed", None, 4)])

    def test_of_another_carriage_or_gate(self):
        for fact in (("folk", 1, 0, 999), ("bargain", 3, 1, 0, 999), ("bargain", 0, 3, 0, 999),
                     ("bargain", 2, 0, 0, 999), ("folk", 3, 0, 999)):
            self.assertEqual(self.walked(fact), [(2, "owed", None, 4)])

    def test_folk_goes_ahead_of_bargain(self):
        both = (("bargain", 3, 0, 5, 5), ("folk", 0, 5, 5))
        self.assertEqual(self.walked(*both), [(2, "folk", None, 0)])
        self.assertEqual(self.walked(*both[::-1]), [(2, "folk", None, 0)])

    def test_several_of_which_one_holds(self):
        self.assertEqual(self.walked(("folk", 0, 5, 5), ("folk", 0, 9, 3), ("folk", 0, 6, 6)), [(2, "folk", None, 0)])
        facts = (("bargain", 3, 0, 0, 4), ("bargain", 3, 0, 5, 6), ("bargain", 2, 0, 0, 9), ("bargain", 3, 0, 7, 0))
        self.assertEqual(self.walked(*facts), [(2, "bargain", None, 0)])

    def test_they_do_not_add_their_days_together(self):
        facts = (("folk", 0, 4, 3), ("folk", 0, 6, 7), ("folk", 0, 0, 3))
        self.assertEqual(self.walked(*facts), [(2, "owed", None, 4)])

    def test_folk_and_bargain_buy_no_ticket(self):
        facts = numbered(("bargain", 1, 0, 0, 9), ("board", 1, 0, (2,)), ("toll", 2, 0, 9), passing(1, 1), passing(2, 2),
                         passing(3, 1))
        self.assertEqual(day_walk(facts, 0), [(4, "bargain", None, 0), (5, "owed", None, 9), (6, "bargain", None, 0)])
        facts = numbered(("folk", 0, 0, 0), passing(1, 1), passing(2, 1), passing(3, 1))
        self.assertEqual(day_walk(facts, 0), [(2, "folk", None, 0), (3, "folk", None, 0), (4, "folk", None, 0)])

    def test_they_go_ahead_of_a_ticket(self):
        facts = numbered(("bargain", 2, 0, 0, 9), ("board", 1, 0, (2,)), passing(1, 1), passing(2, 2))
        self.assertEqual(day_walk(facts, 0), [(3, "owed", None, 0), (4, "bargain", None, 0)])

    def test_a_passing_by_ticket_buys_none(self):
        facts = numbered(("board", 1, 0, (2,)), ("board", 2, 0, (3,)), ("toll", 3, 0, 9), passing(1, 1), passing(2, 2),
                         passing(3, 3))
        self.assertEqual(day_walk(facts, 0), [(4, "owed", None, 0), (5, "ticket", 4, 0), (6, "owed", None, 9)])

    def test_free_on_a_sunday(self):
        self.assertEqual(self.walked(("folk", 0, 6, 6), day=6), [(2, "folk", None, 0)])
        self.assertEqual(self.walked(("bargain", 3, 0, 6, 6), day=6), [(2, "bargain", None, 0)])


class OneRow(unittest.TestCase):
    def setUp(self):
        self.facts = [
            (2, ("toll", 1, 0, 6)), (3, passing(500, 1, 2, 6)), (5, passing(400, 1, 1, 6)), (6, ("lost", 5, 600)),
            (7, passing(700, 1, 1, 6)), (8, passing(20, 1, 1, 6, 1)), (9, ("folk", 1, 6, 6)), (11, passing(0, 1)),
        ]

    def test_rows(self):
        told = {5: ("owed", None, 12), 3: ("owed", None, 24), 7: ("ticket", 3, 0), 8: ("folk", None, 0),
                11: ("owed", None, 6)}
        for number, rest in told.items():
            self.assertEqual(row_of(self.facts, number), (number, *rest))

    def test_as_in_the_walk(self):
        for carriage, day in ((0, 6), (1, 6), (0, 0)):
            for row in day_walk(self.facts, carriage, day):
                self.assertEqual(row_of(self.facts, row[0]), row)

    def test_no_passing(self):
        for number in (1, 2, 4, 6, 9, 10, 12, 0, -1, -3, FAR, -FAR, 300):
            with self.subTest(number):
                with self.assertRaises(NoPassing) as caught:
                    row_of(self.facts, number)
                self.assertEqual(caught.exception.number, number)
                self.assertIsInstance(caught.exception, Missing)

    def test_true_is_no_number(self):
        for truth in (True, False):
            with self.assertRaises(NoPassing):
                row_of([(1, passing(0, 0))], truth)
        self.assertEqual(row_of([(1, passing(0, 0))], 1), (1, "owed", None, 0))

    def test_no_facts(self):
        with self.assertRaises(NoPassing):
            row_of([], 1)


class Refusals(unittest.TestCase):
    def test_carriages(self):
        facts = numbered(passing(0, 0), passing(0, 0, 1, 0, 9))
        for carriage in (-1, 10, FAR, -FAR):
            with self.assertRaises(NoCarriage) as caught:
                day_walk(facts, carriage, 0)
            self.assertEqual(caught.exception.number, carriage)
            self.assertNotIsInstance(caught.exception, PikeError)
        self.assertEqual(len(day_walk(facts, 9)), 1)

    def test_days(self):
        facts = numbered(passing(0, 0), passing(0, 0, 1, 999))
        for day in (-1, 1000, FAR, -FAR):
            with self.assertRaises(BadDay):
                day_walk(facts, 0, day)
        self.assertEqual(len(day_walk(facts, 0, 999)), 1)

    def test_the_carriage_goes_first(self):
        for day in (-1, 1000):
            for carriage in (-1, 10):
                with self.assertRaises(NoCarriage):
                    day_walk([], carriage, day)

    def test_true_and_false_are_none(self):
        for truth in (True, False):
            with self.assertRaises(NoCarriage):
                day_walk([], truth, 0)
            with self.assertRaises(BadDay):
                day_walk([], 0, truth)


class Handing(unittest.TestCase):
    def setUp(self):
        self.facts = numbered(("toll", 1, 0, 6), ("board", 1, 0, (2, 3)), passing(9, 2), passing(8, 1), passing(7, 0),
                              passing(3, 1, 2, 1), ("lost", 4, 9))

    def test_the_day_left_out_is_the_first(self):
        self.assertEqual(day_walk(self.facts, 0), day_walk(self.facts, 0, 0))
        self.assertEqual(len(day_walk(self.facts, 0)), 3)

    def test_by_name_in_any_order(self):
        told = [(6, "owed", None, 12)]
        self.assertEqual(day_walk(day=1, carriage=0, facts=self.facts), told)
        self.assertEqual(day_walk(self.facts, day=1, carriage=0), told)
        self.assertEqual(row_of(number=6, facts=self.facts), told[0])

    def test_kinds(self):
        rows = day_walk(self.facts, 0)
        self.assertIs(type(rows), list)
        for row in rows:
            self.assertIs(type(row), tuple)
            self.assertEqual(len(row), 4)
            self.assertIs(type(row[3]), int)
        self.assertIs(type(row_of(self.facts, 3)), tuple)

    def test_nothing_that_is_handed_in_is_changed(self):
        held = copy.deepcopy(self.facts)
        day_walk(self.facts, 0)
        row_of(self.facts, 3)
        with self.assertRaises(NoPassing):
            row_of(self.facts, 1)
        self.assertEqual(self.facts, held)

    def test_what_is_told_is_new_and_stays(self):
        told = day_walk(self.facts, 0)
        again = day_walk(self.facts, 0)
        self.assertEqual(told, again)
        self.assertIsNot(told, again)
        told.clear()
        self.assertEqual(day_walk(self.facts, 0), again)
        kept = list(again)
        self.facts.clear()
        self.assertEqual(again, kept)
        self.assertEqual(day_walk(self.facts, 0), [])
        empty = day_walk([], 0)
        empty.append(1)
        self.assertEqual(day_walk([], 0), [])


if __name__ == "__main__":
    unittest.main()

"""Points 8 and 9: which ticket clears which passing, and why another one does not."""

import copy
import unittest

from pikeroll.errors import NoPassing
from pikeroll.walk import day_walk, row_of, why

FAR = 10 ** 30 - 1


def numbered(*told):
    return list(enumerate(told, start=1))


def passing(minute, gate, horses=1, day=0, carriage=0):
    return ("pass", day, minute, gate, carriage, horses)


def two_passings(*more, first=(100, 1), second=(200, 2)):
    """A ticket bought at number 1, and number 2 which it perhaps clears."""
    return numbered(passing(*first), passing(*second), *more)


class TicketCase(unittest.TestCase):
    def assert_clears(self, facts, number=2, by=1):
        self.assertEqual(row_of(facts, number), (number, "ticket", by, 0))
        self.assertNotIn(by, [pair[0] for pair in why(facts, number)])

    def assert_hinders(self, facts, word, number=2, ticket=1):
        self.assertEqual(row_of(facts, number)[1], "owed")
        self.assertEqual(why(facts, number), [(ticket, word)])


class Boards(TicketCase):
    def test_its_own_gate_always(self):
        for gate in range(8):
            self.assert_clears(two_passings(first=(1, gate), second=(2, gate)))
            others = tuple(other for other in range(8) if other != gate)
            for named in ((), others, others[:1]):
                self.assert_clears(two_passings(("board", gate, 0, named), first=(1, gate), second=(2, gate)))

    def test_gates_that_it_names(self):
        for gate in range(8):
            facts = two_passings(("board", 3, 0, (0, 2, 7)), first=(1, 3), second=(2, gate))
            if gate in (0, 2, 3, 7):
                self.assert_clears(facts)
            else:
                self.assert_hinders(facts, "board")

    def test_one_way_alone(self):
        board = ("board", 1, 0, (2,))
        self.assert_clears(two_passings(board))
        self.assert_hinders(two_passings(board, first=(1, 2), second=(2, 1)), "board")

    def test_not_by_a_third_gate(self):
        boards = (("board", 1, 0, (2,)), ("board", 2, 0, (3,)))
        self.assert_hinders(two_passings(*boards, first=(1, 1), second=(2, 3)), "board")

    def test_the_board_of_that_day(self):
        later = ("board", 1, 6, (2,))
        for day in (0, 5):
            self.assert_hinders(two_passings(later, first=(1, 1, 1, day), second=(2, 2, 1, day)), "board")
        for day in (6, 7, 999):
            self.assert_clears(two_passings(later, first=(1, 1, 1, day), second=(2, 2, 1, day)))

    def test_a_later_board_takes_the_place_of_an_earlier_one(self):
        boards = (("board", 1, 4, ()), ("board", 1, 2, (2,)))
        told = []
        for day in (1, 2, 3, 4, 5):
            facts = two_passings(*boards, first=(1, 1, 1, day), second=(2, 2, 1, day))
            told.append(row_of(facts, 2)[1])
        self.assertEqual(told, ["owed", "ticket", "ticket", "owed", "owed"])

    def test_of_one_day_the_greatest_number(self):
        self.assert_clears(two_passings(("board", 1, 0, ()), ("board", 1, 0, (2,))))
        self.assert_hinders(two_passings(("board", 1, 0, (2,)), ("board", 1, 0, ())), "board")


class SameCarriageAndDay(TicketCase):
    def test_another_carriage(self):
        facts = two_passings(first=(1, 1), second=(2, 1, 1, 0, 1))
        self.assertEqual(row_of(facts, 2), (2, "owed", None, 0))
        self.assertEqual(why(facts, 2), [])

    def test_another_day(self):
        for days in ((0, 1), (1, 0), (6, 7)):
            facts = two_passings(first=(1, 1, 1, days[0]), second=(2, 1, 1, days[1]))
            self.assertEqual(row_of(facts, 2), (2, "owed", None, 0))
            self.assertEqual(why(facts, 2), [])

    def test_not_ahead_in_the_order(self):
        facts = two_passings(first=(200, 1), second=(100, 1))
        self.assertEqual(row_of(facts, 2), (2, "owed", None, 0))
        self.assertEqual(why(facts, 2), [])
        self.assert_clears(facts, 1, 2)

    def test_of_one_minute(self):
        facts = two_passings(first=(100, 1), second=(100, 1))
        self.assert_clears(facts)
        self.assertEqual(why(facts, 1), [])


class Horses(TicketCase):
    def test_fewer_as_many_and_more(self):
        for bought in range(1, 9):
            for led in range(1, 9):
                facts = two_passings(first=(1, 1, bought), second=(2, 1, led))
                if bought >= led:
                    self.assert_clears(facts)
                else:
                    self.assert_hinders(facts, "horses")

    def test_a_ticket_for_more_is_bought_beside(self):
        facts = numbered(passing(1, 1, 2), passing(2, 1, 4), passing(3, 1, 3), passing(4, 1, 1), ("toll", 1, 0, 1))
        self.assertEqual([row[1:] for row in day_walk(facts, 0)], [
            ("owed", None, 2), ("owed", None, 4), ("ticket", 2, 0), ("ticket", 1, 0)])


class Lost(TicketCase):
    def test_ahead_of_the_passing_at_it_and_behind_it(self):
        for minute in range(195, 206):
            facts = two_passings(("lost", 1, minute), first=(100, 1), second=(200, 1))
            if minute > 200:
                self.assert_clears(facts)
            else:
                self.assert_hinders(facts, "lost")

    def test_lost_when_or_ahead_of_when_it_was_bought(self):
        for minute in (0, 99, 100, 101):
            self.assert_hinders(two_passings(("lost", 1, minute), first=(100, 1), second=(200, 1)), "lost")

    def test_lost_in_the_minute_of_both(self):
        self.assert_hinders(two_passings(("lost", 1, 100), first=(100, 1), second=(100, 1)), "lost")
        self.assert_clears(two_passings(("lost", 1, 101), first=(100, 1), second=(100, 1)))

    def test_at_the_day_s_ends(self):
        self.assert_hinders(two_passings(("lost", 1, 0), first=(0, 1), second=(0, 1)), "lost")
        self.assert_hinders(two_passings(("lost", 1, 1439), first=(0, 1), second=(1439, 1)), "lost")
        self.assert_clears(two_passings(("lost", 1, 1439), first=(0, 1), second=(1438, 1)))

    def test_lost_twice_from_the_earlier_minute_on(self):
        for losts in ((150, 250), (250, 150), (200, 200), (300, 200, 400), (0, 1439)):
            told = [("lost", 1, minute) for minute in losts]
            self.assert_hinders(two_passings(*told, first=(100, 1), second=(200, 1)), "lost")
        self.assert_clears(two_passings(("lost", 1, 250), ("lost", 1, 201), first=(100, 1), second=(200, 1)))

    def test_cleared_ahead_of_the_loss_alone(self):
        facts = numbered(passing(100, 1), passing(150, 1), passing(160, 1), passing(170, 1), ("lost", 1, 160))
        self.assertEqual([row[1:3] for row in day_walk(facts, 0)], [
            ("owed", None), ("ticket", 1), ("owed", None), ("ticket", 3)])

    def test_no_passing_has_the_number(self):
        for number in (3, 4, 5, 9, FAR):
            self.assert_clears(two_passings(("lost", number, 0), ("toll", 1, 0, 0), first=(1, 1), second=(2, 1)))

    def test_it_bought_none(self):
        facts = numbered(passing(1, 1), passing(2, 1), passing(3, 1), ("lost", 2, 0))
        self.assertEqual([row[1:3] for row in day_walk(facts, 0)], [("owed", None), ("ticket", 1), ("ticket", 1)])
        facts = numbered(("folk", 0, 0, 0), passing(1, 1), passing(2, 1), ("lost", 2, 0))
        self.assertEqual([row[1] for row in day_walk(facts, 0)], ["folk", "folk"])

    def test_told_ahead_of_its_passing(self):
        facts = numbered(("lost", 2, 150), passing(100, 1), passing(200, 1))
        self.assert_hinders(facts, "lost", 3, 2)

    def test_one_of_two(self):
        facts = numbered(passing(1, 1, 1), passing(2, 1, 2), passing(3, 1, 1), ("lost", 1, 3))
        self.assert_clears(facts, 3, 2)
        self.assertEqual(why(facts, 3), [(1, "lost")])

    def test_of_another_day_or_carriage(self):
        facts = numbered(passing(10, 1), passing(20, 1), passing(10, 1, 1, 1), passing(20, 1, 1, 1),
                         passing(10, 1, 1, 0, 1), passing(20, 1, 1, 0, 1), ("lost", 3, 0), ("lost", 5, 0))
        self.assert_clears(facts, 2, 1)
        self.assert_hinders(facts, "lost", 4, 3)
        self.assert_hinders(facts, "lost", 6, 5)


class First(TicketCase):
    def test_of_several_the_first_in_the_order(self):
        boards = (("board", 1, 0, (3,)), ("board", 2, 0, (3,)))
        facts = numbered(*boards, passing(5, 1), passing(6, 2), passing(7, 3))
        self.assert_clears(facts, 5, 3)
        facts = numbered(*boards, passing(6, 1), passing(5, 2), passing(7, 3))
        self.assert_clears(facts, 5, 4)
        self.assertEqual(why(facts, 5), [])

    def test_of_one_minute_the_first_number(self):
        boards = (("board", 1, 0, (3,)), ("board", 2, 0, (3,)))
        self.assert_clears(numbered(*boards, passing(5, 2), passing(5, 1), passing(5, 3)), 5, 3)

    def test_not_the_one_of_its_own_gate_or_with_the_most_horses(self):
        facts = numbered(("board", 1, 0, (2,)), passing(1, 1, 2), passing(2, 2, 3), passing(3, 2, 1), passing(4, 2, 3))
        self.assert_clears(facts, 4, 2)
        self.assert_clears(facts, 5, 3)

    def test_the_first_that_is_not_hindered(self):
        facts = numbered(("board", 4, 0, (5,)), passing(1, 0, 8), passing(2, 4, 1), passing(3, 4, 2), passing(4, 4, 3),
                         passing(5, 5, 2), ("lost", 4, 5))
        self.assert_clears(facts, 6, 5)
        self.assertEqual(why(facts, 6), [(2, "board"), (3, "horses"), (4, "lost")])


class Why(TicketCase):
    def test_board_goes_ahead_of_horses_ahead_of_lost(self):
        lost = ("lost", 1, 0)
        self.assert_hinders(two_passings(lost, first=(1, 1, 1), second=(2, 2, 2)), "board")
        self.assert_hinders(two_passings(lost, first=(1, 1, 2), second=(2, 2, 2)), "board")
        self.assert_hinders(two_passings(first=(1, 1, 1), second=(2, 2, 2)), "board")
        self.assert_hinders(two_passings(lost, first=(1, 1, 1), second=(2, 1, 2)), "horses")
        self.assert_hinders(two_passings(lost, first=(1, 1, 2), second=(2, 1, 2)), "lost")

    def test_in_the_order_of_the_day(self):
        facts = numbered(passing(30, 0), passing(10, 1), passing(20, 2), passing(10, 3), passing(40, 4))
        self.assertEqual(why(facts, 5), [(2, "board"), (4, "board"), (3, "board"), (1, "board")])
        self.assertEqual(why(facts, 1), [(2, "board"), (4, "board"), (3, "board")])
        self.assertEqual(why(facts, 4), [(2, "board")])
        self.assertEqual(why(facts, 2), [])

    def test_those_behind_are_left_out(self):
        facts = numbered(passing(10, 0), passing(20, 1), passing(30, 2), passing(20, 3))
        self.assertEqual(why(facts, 2), [(1, "board")])
        self.assertEqual(why(facts, 4), [(1, "board"), (2, "board")])

    def test_passings_that_bought_none_are_left_out(self):
        facts = numbered(("bargain", 6, 0, 0, 0), passing(1, 0), passing(2, 0), passing(3, 6), passing(4, 1))
        self.assertEqual(why(facts, 5), [(2, "board")])

    def test_of_a_passing_by_ticket(self):
        facts = numbered(passing(1, 1), passing(2, 2), passing(3, 2))
        self.assertEqual(row_of(facts, 3), (3, "ticket", 2, 0))
        self.assertEqual(why(facts, 3), [(1, "board")])

    def test_of_a_passing_by_bargain(self):
        facts = numbered(("bargain", 2, 0, 0, 0), passing(1, 1, 1), passing(2, 2), passing(3, 2, 2),
                         ("board", 1, 0, (2,)), ("lost", 2, 3))
        self.assertEqual(why(facts, 3), [])
        self.assertEqual(why(facts, 4), [(2, "horses")])

    def test_of_a_passing_by_folk(self):
        self.assertEqual(why(numbered(("folk", 0, 0, 0), passing(1, 1), passing(2, 2)), 3), [])

    def test_no_passing(self):
        facts = numbered(("toll", 1, 0, 2), passing(1, 1), ("lost", 2, 2), passing(2, 1))
        for number in (1, 3, 5, 0, -1, -2, FAR, -FAR):
            with self.subTest(number):
                with self.assertRaises(NoPassing) as caught:
                    why(facts, number)
                self.assertEqual(caught.exception.number, number)
        with self.assertRaises(NoPassing):
            why([], 1)
        with self.assertRaises(NoPassing):
            why(numbered(passing(1, 1)), True)

    def test_kinds_and_new_lists(self):
        facts = two_passings()
        held = copy.deepcopy(facts)
        told = why(number=2, facts=facts)
        self.assertIs(type(told), list)
        self.assertIs(type(told[0]), tuple)
        told.append("more")
        self.assertEqual(why(facts, 2), [(1, "board")])
        none = why(facts, 1)
        none.append("more")
        self.assertEqual(why(facts, 1), [])
        self.assertEqual(facts, held)
        self.assertIsNot(why(facts, 2), why(facts, 2))


if __name__ == "__main__":
    unittest.main()

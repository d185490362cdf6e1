"""Points 11 and 12: what carriages owe, and the balances of the trusts."""

import copy
import unittest

from pikeroll.accounts import balances, owes
from pikeroll.coin import Toll
from pikeroll.errors import BadDay, Missing, NoCarriage, PikeError

FAR = 10 ** 30 - 1


def numbered(*told):
    return list(enumerate(told, start=1))


def passing(minute, gate, horses=1, day=0, carriage=0):
    return ("pass", day, minute, gate, carriage, horses)


class Owes(unittest.TestCase):
    def assert_owes(self, facts, halves, carriage=0, day=999):
        self.assertEqual(owes(facts, carriage, day), Toll(halves))

    def test_nothing(self):
        for carriage in range(10):
            self.assert_owes([], 0, carriage)
            self.assert_owes(numbered(("toll", 1, 0, 48), ("lost", 1, 0)), 0, carriage, 0)

    def test_the_sum_of_the_rows(self):
        facts = numbered(("toll", 1, 0, 5), ("toll", 2, 0, 7), passing(1, 1, 2), passing(2, 1, 1), passing(3, 2, 3))
        self.assert_owes(facts, 10 + 0 + 21)

    def test_to_that_day(self):
        facts = numbered(("toll", 1, 0, 5), *[passing(1, 1, 1, day) for day in (5, 2, 6, 999, 7)])
        told = [owes(facts, 0, day).halves for day in (0, 1, 2, 4, 5, 6, 7, 998, 999)]
        self.assertEqual(told, [0, 0, 5, 5, 10, 20, 25, 25, 30])

    def test_payments_on_the_day_and_behind_it(self):
        facts = numbered(("toll", 1, 0, 48), passing(1, 1, 8, 10), ("paid", 0, 10, 100), ("paid", 0, 11, 50),
                         ("paid", 0, 9, 3))
        told = [owes(facts, 0, day).halves for day in (0, 8, 9, 10, 11, 12, 999)]
        self.assertEqual(told, [0, 0, -3, 281, 231, 231, 231])

    def test_paid_twice_on_one_day(self):
        self.assert_owes(numbered(("paid", 3, 4, 7), ("paid", 3, 4, 7), ("paid", 3, 4, 0)), -14, 3, 4)

    def test_below_nought_where_too_much_was_paid(self):
        facts = numbered(("toll", 1, 0, 5), passing(1, 1), ("paid", 0, 0, 100000))
        self.assert_owes(facts, -99995)
        self.assertEqual(str(owes(facts, 0)), "-49997 1/2d")

    def test_of_one_carriage_alone(self):
        facts = numbered(("toll", 1, 0, 5), passing(1, 1), passing(1, 1, 2, 0, 9), ("paid", 4, 0, 8), ("paid", 9, 0, 1))
        told = [owes(facts, carriage).halves for carriage in range(10)]
        self.assertEqual(told, [5, 0, 0, 0, -8, 0, 0, 0, 0, 9])

    def test_a_payment_of_a_gate_s_number_is_a_carriage_s(self):
        self.assert_owes(numbered(("toll", 3, 0, 40), ("trust", 3, 0, 2), ("folk", 3, 0, 4)), 0, 3)

    def test_free_passings_add_nothing(self):
        facts = numbered(("toll", 1, 0, 5), passing(1, 1), ("folk", 0, 0, 0), passing(1, 1, 1, 1),
                         ("bargain", 1, 0, 1, 1), passing(1, 1, 1, 2))
        self.assert_owes(facts, 0, 0, 1)
        self.assert_owes(facts, 5, 0, 2)

    def test_the_day_left_out_is_the_last(self):
        facts = numbered(("toll", 1, 0, 5), passing(1, 1, 1, 999), ("paid", 0, 999, 1))
        self.assertEqual(owes(facts, 0), Toll(4))
        self.assertEqual(owes(facts, 0, 998), Toll(0))
        self.assertEqual(owes(day=999, carriage=0, facts=facts), Toll(4))
        self.assertIs(type(owes(facts, 0)), Toll)

    def test_refusals(self):
        for carriage in (-1, 10, FAR, -FAR, True, False):
            for day in (0, 999, -1, 1000):
                with self.assertRaises(NoCarriage) as caught:
                    owes([], carriage, day)
                self.assertEqual(caught.exception.number, carriage)
                self.assertIsInstance(caught.exception, Missing)
        for day in (-1, 1000, FAR, -FAR, True, False):
            with self.assertRaises(BadDay) as caught:
                owes([], 9, day)
            self.assertIsInstance(caught.exception, PikeError)

    def test_what_is_handed_in_is_not_changed(self):
        facts = numbered(("toll", 1, 0, 5), passing(2, 1), passing(1, 1), ("paid", 0, 0, 1), ("board", 1, 0, (2,)))
        held = copy.deepcopy(facts)
        first, second = owes(facts, 0), owes(facts, 0)
        self.assertEqual(facts, held)
        self.assertIsNot(first, second)
        facts.clear()
        self.assertEqual(first, Toll(4))


class Balances(unittest.TestCase):
    def assert_balances(self, facts, told, day=999):
        self.assertEqual([toll.halves for toll in balances(facts, day)], told)

    def facts(self, *more, toll=10, horses=1, day=0):
        """A ticket of gate 1, trust 1's, lets by at gate 2, trust 2's."""
        return numbered(("toll", 2, 0, toll), ("board", 1, 0, (2,)), ("trust", 1, 0, 1), ("trust", 2, 0, 2),
                        passing(10, 1, horses, day), passing(20, 2, horses, day), *more)

    def test_nothing(self):
        self.assert_balances([], [0, 0, 0, 0])
        self.assert_balances([], [0, 0, 0, 0], 0)
        self.assertEqual(balances([]), [Toll(), Toll(), Toll(), Toll()])

    def test_the_former_owes_the_latter_the_third(self):
        self.assert_balances(self.facts(toll=12), [0, -4, 4, 0])

    def test_rounded_down(self):
        for toll in range(0, 49):
            self.assert_balances(self.facts(toll=toll), [0, -(toll // 3), toll // 3, 0])

    def test_times_the_horses_ahead_of_the_third(self):
        for horses in range(1, 9):
            third = 11 * horses // 3
            self.assert_balances(self.facts(toll=11, horses=horses), [0, -third, third, 0])

    def test_doubled_on_sundays_ahead_of_the_third(self):
        self.assert_balances(self.facts(toll=5, day=6), [0, -3, 3, 0])
        self.assert_balances(self.facts(toll=5, day=5), [0, -1, 1, 0])
        self.assert_balances(self.facts(toll=5, day=7), [0, -1, 1, 0])

    def test_the_horses_of_the_passing_not_of_the_ticket(self):
        facts = numbered(("toll", 2, 0, 9), ("toll", 1, 0, 48), ("board", 1, 0, (2,)), ("trust", 2, 0, 3),
                         passing(1, 1, 8), passing(2, 2, 2))
        self.assert_balances(facts, [-6, 0, 0, 6])

    def test_each_passing_is_rounded_alone(self):
        facts = self.facts(passing(30, 2), passing(40, 2), passing(50, 2), toll=5)
        self.assert_balances(facts, [0, -4, 4, 0])

    def test_like_trusts_owe_nothing(self):
        self.assert_balances(self.facts(("trust", 2, 0, 1)), [0, 0, 0, 0])
        facts = numbered(("toll", 2, 0, 12), ("board", 1, 0, (2,)), passing(1, 1), passing(2, 2))
        self.assert_balances(facts, [0, 0, 0, 0])
        facts = numbered(("toll", 2, 0, 12), ("trust", 2, 0, 3), passing(1, 2), passing(2, 2))
        self.assert_balances(facts, [0, 0, 0, 0])

    def test_trust_nought_where_none_is_told(self):
        facts = numbered(("toll", 2, 0, 12), ("board", 1, 0, (2,)), ("trust", 2, 0, 3), passing(1, 1), passing(2, 2))
        self.assert_balances(facts, [-4, 0, 0, 4])
        facts = numbered(("toll", 2, 0, 12), ("board", 1, 0, (2,)), ("trust", 1, 0, 3), passing(1, 1), passing(2, 2))
        self.assert_balances(facts, [4, 0, 0, -4])

    def test_what_is_owed_or_free_counts_nothing(self):
        self.assert_balances(self.facts(("board", 1, 0, ())), [0, 0, 0, 0])
        self.assert_balances(self.facts(("folk", 0, 0, 0)), [0, 0, 0, 0])
        self.assert_balances(self.facts(("bargain", 2, 0, 0, 0)), [0, 0, 0, 0])
        self.assert_balances(self.facts(("bargain", 1, 0, 0, 0)), [0, 0, 0, 0])
        self.assert_balances(self.facts(("lost", 5, 20)), [0, 0, 0, 0])

    def test_payments_count_nothing(self):
        self.assert_balances(self.facts(("paid", 0, 0, 999)), [0, -3, 3, 0])

    def test_trusts_that_change_on_the_day(self):
        for day, told in ((4, [0, -2, 2, 0]), (5, [0, -2, 0, 2]), (7, [0, -2, 0, 2]), (9, [2, -2, 0, 0])):
            facts = self.facts(("trust", 2, 9, 0), ("trust", 2, 5, 3), toll=6, day=day)
            self.assert_balances(facts, told)
        facts = self.facts(("trust", 1, 4, 0), toll=6, day=4)
        self.assert_balances(facts, [-2, 0, 2, 0])

    def test_trusts_of_the_day_of_the_passing_not_of_the_day_asked(self):
        facts = self.facts(("trust", 2, 5, 3), ("trust", 1, 5, 0), toll=6, day=4)
        for day in (4, 5, 6, 999):
            self.assert_balances(facts, [0, -2, 2, 0], day)

    def test_tolls_of_the_day_of_the_passing(self):
        facts = self.facts(("toll", 2, 5, 30), toll=6, day=4)
        self.assert_balances(facts, [0, -2, 2, 0])
        facts = self.facts(("toll", 2, 5, 30), toll=6, day=5)
        self.assert_balances(facts, [0, -10, 10, 0])

    def test_to_that_day(self):
        later = (passing(10, 1, 1, 3), passing(20, 2, 1, 3), passing(10, 1, 1, 6), passing(20, 2, 1, 6))
        facts = self.facts(*later, toll=6)
        for day, third in ((0, 2), (1, 2), (2, 2), (3, 4), (4, 4), (5, 4), (6, 8), (999, 8)):
            self.assert_balances(facts, [0, -third, third, 0], day)

    def test_several_trusts_and_carriages(self):
        facts = numbered(
            *[("toll", gate, 0, 3 * (gate + 1)) for gate in range(4)],
            *[("trust", gate, 0, gate) for gate in range(4)],
            ("board", 0, 0, (1, 2, 3)), ("board", 3, 0, (0,)),
            passing(1, 0, 1, 0, 5), passing(2, 1, 1, 0, 5), passing(3, 2, 1, 0, 5), passing(4, 3, 1, 0, 5),
            passing(1, 3, 1, 0, 6), passing(2, 0, 1, 0, 6), passing(3, 0, 1, 0, 6),
        )
        # Trust 0 owes 2, 3 and 4 to the others; trust 3 owes 1 twice to trust 0.
        self.assert_balances(facts, [-9 + 2, 2, 3, 4 - 2])

    def test_together_nought(self):
        for day in range(0, 15):
            facts = self.facts(("trust", 3, 0, 3), ("board", 3, 0, (1, 2)), ("toll", 1, 0, 7), passing(5, 3, 3, day),
                               passing(6, 1, 2, day), passing(7, 2, 3, day), toll=11, horses=3, day=day)
            self.assertEqual(sum(toll.halves for toll in balances(facts)), 0)

    def test_the_day_left_out_is_the_last(self):
        facts = self.facts(toll=6, day=999)
        self.assertEqual(balances(facts), [Toll(0), Toll(-2), Toll(2), Toll(0)])
        self.assertEqual(balances(day=998, facts=facts), [Toll(0)] * 4)

    def test_refusals(self):
        for day in (-1, 1000, FAR, -FAR, True, False):
            with self.assertRaises(BadDay):
                balances([], day)

    def test_kinds_and_new_lists(self):
        facts = self.facts()
        held = copy.deepcopy(facts)
        told = balances(facts)
        self.assertIs(type(told), list)
        self.assertEqual([type(toll) for toll in told], [Toll] * 4)
        self.assertEqual(facts, held)
        told.clear()
        again = balances(facts)
        self.assertEqual([toll.halves for toll in again], [0, -3, 3, 0])
        again[0].halves = 5
        self.assert_balances(facts, [0, -3, 3, 0])
        none = balances([])
        none[0].halves = 5
        self.assertEqual([toll.halves for toll in none], [5, 0, 0, 0])
        self.assert_balances([], [0, 0, 0, 0])


if __name__ == "__main__":
    unittest.main()

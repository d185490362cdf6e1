"""Point 10: what a change of facts turns."""

import copy
import unittest

from pikeroll.walk import turned


def numbered(*told):
    return list(enumerate(told, start=1))


def passing(minute, gate, horses=1, day=0, carriage=0):
    return ("pass", day, minute, gate, carriage, horses)


# Four passings of a gate that asks 6: the first one buys the ticket of the others.
PLAIN = numbered(("toll", 1, 0, 6), passing(10, 1), passing(20, 1), passing(30, 1), passing(40, 1))


def put_right(facts, number, fact):
    return [(held, fact if held == number else stood) for held, stood in facts]


def struck(facts, number):
    return [pair for pair in facts if pair[0] != number]


class Turns(unittest.TestCase):
    def assert_turned(self, others, numbers, facts=PLAIN):
        self.assertEqual(turned(facts, others), numbers)
        self.assertEqual(turned(others, facts), numbers)

    def test_nothing(self):
        self.assert_turned(PLAIN, [])
        self.assert_turned(copy.deepcopy(PLAIN), [])
        self.assert_turned([], [])
        self.assert_turned([], [], [])

    def test_a_passing_told_late(self):
        self.assert_turned(PLAIN + [(6, passing(5, 1))], [2, 3, 4, 5])
        self.assert_turned(PLAIN + [(6, passing(25, 1))], [])
        self.assert_turned(PLAIN + [(6, passing(50, 1))], [])

    def test_a_passing_told_late_of_the_same_minute(self):
        self.assert_turned(PLAIN + [(6, passing(10, 1))], [])

    def test_a_loss_put_in(self):
        self.assert_turned(PLAIN + [(6, ("lost", 2, 30))], [4, 5])
        self.assert_turned(PLAIN + [(6, ("lost", 2, 15))], [3, 4, 5])
        self.assert_turned(PLAIN + [(6, ("lost", 3, 0)), (7, ("lost", 1, 0)), (8, ("lost", 99, 0))], [])

    def test_struck(self):
        self.assert_turned(struck(PLAIN, 2), [3, 4, 5])
        self.assert_turned(struck(PLAIN, 3), [])
        self.assert_turned(struck(PLAIN, 1), [2])

    def test_put_right(self):
        self.assert_turned(put_right(PLAIN, 2, passing(10, 1, 2)), [2])
        self.assert_turned(put_right(PLAIN, 2, passing(35, 1)), [2, 3, 4, 5])
        self.assert_turned(put_right(PLAIN, 2, passing(10, 2)), [2, 3, 4, 5])
        self.assert_turned(put_right(PLAIN, 4, passing(30, 1, 8)), [4])
        self.assert_turned(put_right(PLAIN, 1, ("toll", 1, 0, 7)), [2])
        self.assert_turned(put_right(PLAIN, 1, ("toll", 1, 1, 6)), [2])

    def test_put_right_and_the_row_is_like(self):
        self.assert_turned(put_right(PLAIN, 3, passing(39, 1)), [])
        self.assert_turned(put_right(PLAIN, 2, passing(19, 1)), [])
        self.assert_turned(put_right(PLAIN, 1, ("toll", 1, 0, 6)), [])

    def test_exchanged(self):
        facts = numbered(passing(10, 1), passing(20, 1), ("toll", 1, 0, 4), ("toll", 1, 0, 5))
        others = [(1, facts[1][1]), (2, facts[0][1]), facts[2], facts[3]]
        self.assert_turned(others, [1, 2], facts)
        others = [facts[0], facts[1], (3, facts[3][1]), (4, facts[2][1])]
        self.assert_turned(others, [1], facts)

    def test_put_in(self):
        self.assert_turned(PLAIN + [(6, ("folk", 0, 0, 0))], [2, 3, 4, 5])
        self.assert_turned(PLAIN + [(6, ("bargain", 1, 0, 0, 0))], [2, 3, 4, 5])
        self.assert_turned(PLAIN + [(6, ("bargain", 2, 0, 0, 0)), (7, ("folk", 1, 0, 9)), (8, ("folk", 0, 1, 0))], [])
        self.assert_turned(PLAIN + [(6, ("toll", 1, 0, 6)), (7, ("trust", 1, 0, 3)), (8, ("paid", 0, 0, 5))], [])

    def test_numbers_that_are_passings_in_one_alone(self):
        others = put_right(put_right(PLAIN, 5, ("toll", 7, 0, 1)), 1, passing(0, 7))
        # The gate asks nothing now, so number 2 is turned; 1 and 5 are passings in one list alone.
        self.assert_turned(others, [2])
        self.assert_turned([(9, passing(10, 1)), (10, passing(20, 1))], [])
        self.assert_turned([(2, passing(10, 2, 1, 6, 9))], [2])

    def test_what_is_unlike(self):
        facts = numbered(("toll", 1, 0, 6), ("board", 1, 0, (2,)), ("board", 3, 0, (2,)), passing(1, 1), passing(2, 3),
                         passing(3, 2))
        # The word, by whose ticket, and how many halfpennies.
        self.assert_turned(struck(facts, 4), [6], facts)
        self.assert_turned(put_right(facts, 4, passing(2, 1)), [], facts)
        self.assert_turned(put_right(facts, 5, passing(0, 3)), [6], facts)
        self.assert_turned(put_right(facts, 1, ("toll", 1, 0, 5)), [4], facts)
        self.assert_turned(facts + [(7, ("bargain", 2, 0, 0, 0)), (8, ("bargain", 3, 0, 0, 0))], [5, 6], facts)

    def test_the_numbers_rise(self):
        # Told from the last minute to the first one, of two carriages on three days.
        facts = numbered(*[passing(1000 - 10 * at, 3, 1, at % 3, at % 2) for at in range(40)])
        self.assert_turned(facts + [(41, ("toll", 3, 0, 1))], [35, 36, 37, 38, 39, 40], facts)

    def test_kinds_and_new_lists(self):
        others = struck(PLAIN, 2)
        held = copy.deepcopy(PLAIN), copy.deepcopy(others)
        told = turned(others=others, facts=PLAIN)
        self.assertIs(type(told), list)
        told.clear()
        self.assertEqual(turned(PLAIN, others), [3, 4, 5])
        self.assertEqual((PLAIN, others), held)
        none = turned(PLAIN, PLAIN)
        none.append(1)
        self.assertEqual(turned(PLAIN, PLAIN), [])


if __name__ == "__main__":
    unittest.main()

"""Points 3 and 4, and what point 2 says of coin."""

import unittest

from pikeroll.coin import Toll, read_stub, stub, summed
from pikeroll.errors import BadStub

FAR = 123456789012345678901234567890


class Likeness(unittest.TestCase):
    def test_as_many_are_alike(self):
        for halves in (0, 1, 7, -7, FAR, -FAR):
            with self.subTest(halves):
                self.assertTrue(Toll(halves) == Toll(halves))
                self.assertFalse(Toll(halves) != Toll(halves))

    def test_unlike_counts(self):
        for one, other in ((0, 1), (7, -7), (FAR, FAR + 1), (-1, 1)):
            with self.subTest((one, other)):
                self.assertFalse(Toll(one) == Toll(other))
                self.assertFalse(Toll(other) == Toll(one))
                self.assertTrue(Toll(one) != Toll(other))
                self.assertTrue(Toll(other) != Toll(one))

    def test_like_nothing_else(self):
        class Alike:
            halves = 1

        things = (1, 0, True, "1/2d", "Toll(1)", None, (1,), [1], {}, Alike(), Toll)
        for thing in things:
            with self.subTest(repr(thing)):
                self.assertFalse(Toll(1) == thing)
                self.assertFalse(thing == Toll(1))
                self.assertTrue(Toll(1) != thing)
                self.assertTrue(thing != Toll(1))

    def test_like_not_even_what_says_so(self):
        class Yes:
            def __eq__(self, other):
                return True

        self.assertIs(Toll(1) == Yes(), False)


class Texts(unittest.TestCase):
    def test_text(self):
        texts = {
            0: "0d", 1: "1/2d", 2: "1d", 3: "1 1/2d", 6: "3d", 7: "3 1/2d", 24: "12d",
            -1: "-1/2d", -2: "-1d", -3: "-1 1/2d", -6: "-3d", -7: "-3 1/2d",
            10 ** 30: "5" + "0" * 29 + "d",
            10 ** 29 + 1: "5" + "0" * 28 + " 1/2d",
            -(10 ** 29) - 1: "-5" + "0" * 28 + " 1/2d",
        }
        for halves, text in texts.items():
            with self.subTest(halves):
                self.assertEqual(str(Toll(halves)), text)
                self.assertEqual(f"{Toll(halves)}", text)

    def test_repr(self):
        self.assertEqual(repr(Toll(7)), "Toll(7)")
        self.assertEqual(repr(Toll(0)), "Toll(0)")
        self.assertEqual(repr(Toll(-7)), "Toll(-7)")
        self.assertEqual(repr(Toll(FAR)), f"Toll({FAR})")
        self.assertEqual(repr([Toll(1), Toll(2)]), "[Toll(1), Toll(2)]")


class Field(unittest.TestCase):
    def test_halves(self):
        for halves in (0, 5, -5, FAR):
            self.assertEqual(Toll(halves).halves, halves)
        self.assertEqual(Toll(halves=9).halves, 9)

    def test_left_out_is_nought(self):
        self.assertEqual(Toll().halves, 0)
        self.assertEqual(Toll(), Toll(0))

    def test_made_apart(self):
        one, other = Toll(), Toll()
        one.halves = 3
        self.assertEqual(other.halves, 0)


class Sums(unittest.TestCase):
    def test_plus(self):
        self.assertEqual(Toll(3).plus(Toll(4)), Toll(7))
        self.assertEqual(Toll(3).plus(Toll(-4)), Toll(-1))
        self.assertEqual(Toll(FAR).plus(other=Toll(1)), Toll(FAR + 1))

    def test_times(self):
        self.assertEqual(Toll(3).times(5), Toll(15))
        self.assertEqual(Toll(3).times(many=0), Toll(0))
        self.assertEqual(Toll(-3).times(-2), Toll(6))
        self.assertEqual(Toll(FAR).times(10), Toll(FAR * 10))

    def test_times_left_out_doubles(self):
        self.assertEqual(Toll(7).times(), Toll(14))
        self.assertEqual(Toll(-7).times(), Toll(-14))

    def test_third_is_rounded_down(self):
        thirds = {0: 0, 1: 0, 2: 0, 3: 1, 5: 1, 6: 2, -1: -1, -2: -1, -3: -1, -4: -2,
                  10 ** 30: (10 ** 30 - 1) // 3, -(10 ** 30): -((10 ** 30 + 2) // 3)}
        for halves, third in thirds.items():
            with self.subTest(halves):
                self.assertEqual(Toll(halves).third(), Toll(third))

    def test_what_is_told_is_new(self):
        toll, nought = Toll(5), Toll(0)
        for told in (toll.plus(nought), nought.plus(toll), toll.times(1)):
            self.assertEqual(told, Toll(5))
            self.assertIsNot(told, toll)
            told.halves = 99
        told = nought.third()
        self.assertIsNot(told, nought)
        told.halves = 99
        self.assertEqual((toll.halves, nought.halves), (5, 0))

    def test_what_was_handed_in_stays(self):
        one, other = Toll(5), Toll(-8)
        one.plus(other)
        one.times()
        one.times(3)
        other.third()
        self.assertEqual((one.halves, other.halves), (5, -8))


class Summed(unittest.TestCase):
    def test_none(self):
        self.assertEqual(summed([]), Toll(0))
        self.assertEqual(summed([], None), Toll(0))
        self.assertEqual(summed([], start=None), Toll(0))

    def test_some(self):
        self.assertEqual(summed([Toll(1), Toll(-5), Toll(2)]), Toll(-2))
        self.assertEqual(summed([Toll(FAR), Toll(FAR)], None), Toll(2 * FAR))

    def test_with_a_beginning(self):
        self.assertEqual(summed([Toll(1), Toll(2)], Toll(4)), Toll(7))
        self.assertEqual(summed([], Toll(-4)), Toll(-4))
        self.assertEqual(summed([Toll(1)], Toll(0)), Toll(1))

    def test_handed_in_by_name_in_any_order(self):
        self.assertEqual(summed(start=Toll(4), tolls=[Toll(1)]), Toll(5))
        self.assertEqual(summed(tolls=[Toll(1)], start=Toll(4)), Toll(5))

    def test_what_is_told_is_new_and_the_rest_stays(self):
        toll, start = Toll(3), Toll(4)
        tolls = [toll, toll]
        told = summed(tolls, start)
        self.assertEqual(told, Toll(10))
        for same in (summed([toll]), summed([], start)):
            self.assertIsNot(same, toll)
            self.assertIsNot(same, start)
            same.halves = 99
        self.assertEqual((toll.halves, start.halves), (3, 4))
        self.assertEqual(len(tolls), 2)
        self.assertIs(tolls[0], toll)
        self.assertIs(tolls[1], toll)

    def test_nothing_is_kept_from_one_to_the_next(self):
        summed([Toll(3)], Toll(4))
        self.assertEqual(summed([Toll(3)]), Toll(3))
        self.assertEqual(summed([]), Toll(0))


STUBS = {
    0: "000", 1: "001", 9: "009", 10: "00a", 11: "00b", 12: "010", 23: "01b", 24: "020",
    131: "0ab", 132: "0b0", 143: "0bb", 144: "100", 145: "101", 1727: "bbb", 1728: "1000",
    12 ** 5 - 1: "bbbbb", 12 ** 5: "100000", 12 ** 27: "1" + "0" * 27,
    12 ** 27 - 1: "b" * 27, 12 ** 27 + 130: "1" + "0" * 25 + "aa",
}


class Stubs(unittest.TestCase):
    def test_written(self):
        for number, text in STUBS.items():
            with self.subTest(number):
                self.assertEqual(stub(number), text)
        self.assertEqual(stub(number=144), "100")

    def test_read(self):
        for number, text in STUBS.items():
            with self.subTest(text):
                self.assertEqual(read_stub(text), number)
        self.assertEqual(read_stub(text="100"), 144)

    def test_written_is_read(self):
        for number in list(range(2000)) + [10 ** 30 - 1, FAR]:
            self.assertEqual(read_stub(stub(number)), number)

    def test_written_in_dozens_of_python_too(self):
        self.assertEqual(int(stub(FAR), 12), FAR)

    def test_three_figures_are_written_just_so(self):
        figures = "0123456789ab"
        texts = [a + b + c for a in figures for b in figures for c in figures]
        self.assertEqual([stub(number) for number in range(1728)], texts)

    def test_refused(self):
        texts = [
            "", "0", "1", "b", "00", "11", "bb",
            "0000", "0001", "0100", "00bb", "0bbb", "0" + "1" * 20, "00000",
            "-01", "-001", "+01", "+001", "0-1", "1-0", "--1",
            " 01", "001 ", " 001", "0 1", "   ", "001\n", "\n001", "\t01", "1 00",
            "00A", "00B", "A00", "BBB", "0bB",
            "00c", "00g", "00x", "0x1", "1_0", "1_00", "00.", "1e2", "00d", "ab/", "ab:",
            "00\u0663", "\u0661\u0661\u0661", "\uff10\uff10\uff11", "00\u00b2", "00\x00", "a\u0301b0",
            "None", "100 1/2d", "100,", "ab`", "ten",
        ]
        for text in texts:
            with self.subTest(repr(text)):
                with self.assertRaises(BadStub):
                    read_stub(text)

    def test_all_signs_but_the_twelve_are_refused(self):
        for code in list(range(256)) + [0x660, 0x966, 0xff11]:
            sign = chr(code)
            if sign in "0123456789ab":
                continue
            for text in (sign + "01", "1" + sign + "1", "11" + sign):
                with self.assertRaises(BadStub):
                    read_stub(text)


if __name__ == "__main__":
    unittest.main()

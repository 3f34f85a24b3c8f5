import itertools
import unittest
from fractions import Fraction
from math import gcd

import onebyone
from evenedshares.curves import held, unevenness
from evenedshares.errors import InvalidNumber, NotAPurse
from evenedshares.purses import Purse
from strange import INTEGERS, ODD, STRINGS, TUPLES

TOWN = Purse(((0, 2), (500, 10), (3000, 1)))
NOTHING = Purse(((0, 7),))
LEVEL = Purse(((5, 3),))
PAIR = Purse(((1, 1), (3, 1)))
GREAT = 10 ** 75
# As many people and as much as there can be.
GREATEST = Purse(tuple((10 ** 36 - 29 + at, 10 ** 72) for at in range(30)))


class Held(unittest.TestCase):
    def check(self, purse, part, whole, share):
        for found in (held(purse, part, whole), held(whole=whole, purse=purse, part=part)):
            self.assertIs(type(found), tuple)
            self.assertEqual([type(number) for number in found], [int, int])
            self.assertEqual(found, share)

    def test_examples_of_the_interface(self):
        self.assertEqual([held(TOWN, 12, 13), held(TOWN, 1, 2)], [(5, 8), (9, 32)])

    def test_fractions_0_and_1(self):
        for purse in (TOWN, NOTHING, LEVEL, PAIR, GREATEST):
            for whole in (1, 2, 13, 10 ** 75):
                self.check(purse, 0, whole, (0, 1))
                self.check(purse, whole, whole, (1, 1))

    def test_at_the_ends_of_kinds(self):
        self.check(TOWN, 2, 13, (0, 1))
        self.check(TOWN, 4, 26, (0, 1))
        self.check(TOWN, 12, 13, (5, 8))
        self.check(TOWN, 120, 130, (5, 8))
        self.check(PAIR, 1, 2, (1, 4))

    def test_next_to_the_ends_of_kinds(self):
        self.check(TOWN, 1, 13, (0, 1))
        self.check(TOWN, 3, 13, (1, 16))
        self.check(TOWN, 11, 13, (9, 16))
        self.check(TOWN, 25, 26, (13, 16))

    def test_within_a_person(self):
        self.check(PAIR, 1, 4, (1, 8))
        self.check(PAIR, 3, 4, (5, 8))
        self.check(PAIR, 2, 3, (1, 2))
        self.check(LEVEL, 1, 7, (1, 7))
        # Half of the third person, the first who has anything.
        self.check(TOWN, 5, 26, (1, 32))

    def test_a_total_of_0(self):
        self.check(NOTHING, 1, 7, (1, 7))
        self.check(NOTHING, 2, 6, (1, 3))
        self.check(NOTHING, 10 ** 75 - 1, 10 ** 75, (10 ** 75 - 1, 10 ** 75))
        self.check(Purse(((0, 10 ** 72),)), 4, 8, (1, 2))

    def test_great_numbers(self):
        self.check(LEVEL, GREAT - 1, GREAT, (GREAT - 1, GREAT))
        self.check(PAIR, 1, GREAT, (1, 2 * GREAT))
        self.check(PAIR, GREAT // 4, GREAT, (1, 8))
        self.check(PAIR, GREAT - 1, GREAT, (2 * GREAT - 3, 2 * GREAT))
        self.check(Purse(((0, 10 ** 72 - 1), (10 ** 36, 1))), 10 ** 72 - 1, 10 ** 72, (0, 1))
        self.check(Purse(((0, 10 ** 72 - 1), (10 ** 36, 1))), 10 ** 73 - 1, 10 ** 73, (9, 10))
        self.check(Purse(((0, 10 ** 72 - 1), (10 ** 36, 1))), 10 ** 75 - 999, 10 ** 75, (1, 1000))
        self.check(Purse(((1, 10 ** 72), (10 ** 36, 10 ** 72))), 1, 2, (1, 10 ** 36 + 1))
        least = Fraction((10 ** 36 - 29) * 30, GREATEST.total // 10 ** 72) / GREAT
        self.check(GREATEST, 1, GREAT, (least.numerator, least.denominator))

    def test_small_purses_person_by_person(self):
        for kinds in onebyone.purses(4, 4):
            purse = Purse(kinds)
            for whole in (1, 2, 3, 4, 5, 12, 24):
                for part in range(whole + 1):
                    share = onebyone.share(kinds, Fraction(part, whole))
                    self.assertEqual(held(purse, part, whole), (share.numerator, share.denominator))

    def test_least_terms(self):
        for part, whole in itertools.product(range(20), (19, 20, 36, 60)):
            if part <= whole:
                top, bottom = held(TOWN, part, whole)
                self.assertEqual(gcd(top, bottom), 1)
                self.assertGreaterEqual(bottom, 1)


class Unevenness(unittest.TestCase):
    def check(self, purse, pair):
        for found in (unevenness(purse), unevenness(purse=purse)):
            self.assertIs(type(found), tuple)
            self.assertEqual([type(number) for number in found], [int, int])
            self.assertEqual(found, pair)

    def test_examples_of_the_interface(self):
        self.check(PAIR, (1, 4))
        self.check(Purse(((7, 10 ** 40),)), (0, 1))

    def test_nothing_and_level(self):
        self.check(NOTHING, (0, 1))
        self.check(Purse(((0, 1),)), (0, 1))
        self.check(LEVEL, (0, 1))
        self.check(Purse(((10 ** 36, 10 ** 72),)), (0, 1))

    def test_one_has_all(self):
        for many in (1, 2, 9, 10 ** 72):
            self.check(Purse(((0, many), (10 ** 36, 1))), (many, many + 1))

    def test_great_purses(self):
        self.check(Purse(((1, 10 ** 72), (3, 10 ** 72))), (1, 4))
        self.check(Purse(((0, 10 ** 72), (10 ** 36, 10 ** 72))), (1, 2))
        apart = sum(later - earlier for earlier, later in itertools.combinations(range(30), 2))
        share = Fraction(apart * 10 ** 144, GREATEST.people * GREATEST.total)
        self.check(GREATEST, (share.numerator, share.denominator))

    def test_small_purses_person_by_person(self):
        for kinds in onebyone.purses(5, 4):
            share = onebyone.unevenness(kinds)
            self.assertEqual(unevenness(Purse(kinds)), (share.numerator, share.denominator))

    def test_as_the_lowest_shares_say(self):
        # Twice the stretch between the lowest shares and those of a level purse.
        for kinds in onebyone.purses(4, 5):
            purse = Purse(kinds)
            shares = [Fraction(*held(purse, part, purse.people)) for part in range(purse.people + 1)]
            below = sum(one + other for one, other in zip(shares, shares[1:])) / purse.people
            self.assertEqual(Fraction(*unevenness(purse)), 1 - below)


class Refusing(unittest.TestCase):
    def refused(self, call, error, given):
        with self.assertRaises(error) as caught:
            call()
        self.assertIs(type(caught.exception), error)
        self.assertIs(caught.exception.given, given)

    def test_no_purse(self):
        for value in (*ODD, *STRINGS, *INTEGERS, *TUPLES, Purse, TOWN.kinds, str(TOWN)):
            with self.subTest(value=value):
                self.refused(lambda: held(value, 1, 2), NotAPurse, value)
                self.refused(lambda: held(part=1, whole=2, purse=value), NotAPurse, value)
                self.refused(lambda: unevenness(value), NotAPurse, value)
                self.refused(lambda: unevenness(purse=value), NotAPurse, value)

    def test_no_part(self):
        for value in (*ODD, *STRINGS, *TUPLES, -1, -10 ** 79, 10 ** 75 + 1, 10 ** 79, TOWN):
            with self.subTest(value=value):
                self.refused(lambda: held(TOWN, value, 10 ** 75), InvalidNumber, value)
                self.refused(lambda: held(part=value, whole=10 ** 75, purse=TOWN), InvalidNumber, value)

    def test_no_whole(self):
        for value in (*ODD, *STRINGS, *TUPLES, -1, 0, 2, -10 ** 79, 10 ** 75 + 1, 10 ** 79, TOWN):
            with self.subTest(value=value):
                self.refused(lambda: held(TOWN, 3, value), InvalidNumber, value)
                self.refused(lambda: held(whole=value, part=3, purse=TOWN), InvalidNumber, value)

    def test_whole_is_from_1_on_and_at_least_the_part(self):
        nought, five = 0, 5
        self.refused(lambda: held(TOWN, 0, nought), InvalidNumber, nought)
        self.refused(lambda: held(TOWN, 0, False), InvalidNumber, False)
        self.refused(lambda: held(TOWN, 1, True), InvalidNumber, True)
        self.refused(lambda: held(TOWN, 6, five), InvalidNumber, five)
        self.assertEqual(held(TOWN, 5, 5), (1, 1))
        self.assertEqual(held(TOWN, 0, 1), (0, 1))

    def test_the_order_of_errors(self):
        self.refused(lambda: held(None, "part", "whole"), NotAPurse, None)
        self.refused(lambda: held(whole="whole", part="part", purse=None), NotAPurse, None)
        self.refused(lambda: held(TOWN, "part", "whole"), InvalidNumber, "part")
        self.refused(lambda: held(whole="whole", part="part", purse=TOWN), InvalidNumber, "part")
        self.assertEqual(held(TOWN, 12, 13), (5, 8))


if __name__ == "__main__":
    unittest.main()

import itertools
import unittest

from evenedshares.errors import InvalidBands, InvalidNumber
from evenedshares.rules import Rule, keeps_order, plain
from strange import INTEGERS, ODD, STRINGS, TUPLES

DUES = ((0, 0, 100), (1000, 100000, 60))
HELP = ((0, 50000, 20), (1000, 69980, 80))
EIGHT = tuple((10 * at, 1000 * at, 100 - at) for at in range(8))
# Each number is at its bound somewhere: starts, values and steps.
BOUNDS = ((0, 10 ** 32, -1000), (1, 0, 1000), (10 ** 29 - 1, 10 ** 32, 0), (10 ** 29, 10 ** 32, 1000))


class Examples(unittest.TestCase):
    def test_examples_of_the_interface(self):
        dues = Rule.read("from 0 value 0 step 100\nfrom 1000 value 100000 step 60")
        help_ = Rule(((0, 50000, 20), (1000, 69980, 80)))
        self.assertEqual(
            [dues.left(999), dues.left(1500), help_.left(0), len(help_), str(plain()), keeps_order(help_),
             keeps_order(Rule(((0, 5, 0), (3, 4, 1))))],
            [99900, 130000, 50000, 2, "from 0 value 0 step 100", True, False])
        with self.assertRaises(InvalidBands) as caught:
            Rule(((0, 10, -3), (5, 0, 1)))
        self.assertEqual(caught.exception.index, 0)


class Making(unittest.TestCase):
    def test_bands_are_kept_as_they_were_passed(self):
        for bands in (((0, 0, 100),), ((0, 0, 0),), DUES, HELP, EIGHT, BOUNDS):
            with self.subTest(bands=bands):
                self.assertIs(Rule(bands).bands, bands)
                self.assertIs(Rule(bands=bands).bands, bands)

    def test_length_is_the_number_of_bands(self):
        self.assertEqual([len(Rule(EIGHT[:many])) for many in range(1, 9)], [1, 2, 3, 4, 5, 6, 7, 8])

    def test_bands_cannot_be_set(self):
        rule = Rule(DUES)
        with self.assertRaises(AttributeError):
            rule.bands = HELP
        self.assertEqual(rule.bands, DUES)

    def test_every_rule_is_true(self):
        for bands in (((0, 0, 0),), DUES, EIGHT):
            self.assertIs(bool(Rule(bands)), True)

    def test_text_has_a_line_for_each_band(self):
        self.assertEqual(str(Rule(((0, 0, 0),))), "from 0 value 0 step 0")
        self.assertEqual(str(Rule(((0, 7, -1), (7, 90, 12)))), "from 0 value 7 step -1\nfrom 7 value 90 step 12")
        self.assertEqual(str(Rule(BOUNDS)).split("\n"), [
            "from 0 value 1" + "0" * 32 + " step -1000",
            "from 1 value 0 step 1000",
            "from " + "9" * 29 + " value 1" + "0" * 32 + " step 0",
            "from 1" + "0" * 29 + " value 1" + "0" * 32 + " step 1000",
        ])

    def test_text_of_one_band(self):
        for band, text in (((0, 0, 100), "from 0 value 0 step 100"), ((0, 50000, 0), "from 0 value 50000 step 0"),
                           ((0, 10 ** 32, 1000), "from 0 value 1" + "0" * 32 + " step 1000")):
            with self.subTest(band=band):
                self.assertIs(type(str(Rule((band,)))), str)
                self.assertEqual(str(Rule((band,))), text)

    def test_text_of_several_bands(self):
        self.assertEqual(str(Rule(DUES)), "from 0 value 0 step 100\nfrom 1000 value 100000 step 60")
        self.assertEqual(str(Rule(((0, 9, -1), (9, 40, -5), (12, 0, 0)))),
                         "from 0 value 9 step -1\nfrom 9 value 40 step -5\nfrom 12 value 0 step 0")
        self.assertEqual(str(Rule(EIGHT)), (
            "from 0 value 0 step 100\nfrom 10 value 1000 step 99\nfrom 20 value 2000 step 98\n"
            "from 30 value 3000 step 97\nfrom 40 value 4000 step 96\nfrom 50 value 5000 step 95\n"
            "from 60 value 6000 step 94\nfrom 70 value 7000 step 93"))
        self.assertIs(type(str(Rule(EIGHT))), str)

    def test_plain_rule(self):
        self.assertEqual(plain().bands, ((0, 0, 100),))
        self.assertEqual(plain(), Rule(((0, 0, 100),)))
        self.assertEqual([plain().left(income) for income in (0, 1, 10 ** 30)], [0, 100, 10 ** 32])


class Equality(unittest.TestCase):
    def check(self, one, other, equal):
        self.assertIs(one == other, equal)
        self.assertIs(one != other, not equal)

    def test_equal_rules(self):
        for bands in (((0, 0, 100),), DUES, EIGHT, BOUNDS):
            with self.subTest(bands=bands):
                rule = Rule(bands)
                self.check(rule, rule, True)
                self.check(rule, Rule(tuple(tuple(band) for band in bands)), True)
                self.check(rule, Rule.read(str(rule)), True)

    def test_rules_with_other_bands_are_not_equal(self):
        for bands in (HELP, DUES[:1], EIGHT, ((0, 0, 100), (1000, 100000, 61)), ((0, 0, 100), (1000, 100001, 60)),
                      ((0, 0, 100), (1001, 100000, 60)), ((0, 1, 100), (1000, 100000, 60))):
            with self.subTest(bands=bands):
                self.check(Rule(DUES), Rule(bands), False)

    def test_rules_that_leave_the_same_are_not_equal(self):
        self.check(Rule(((0, 0, 100), (5, 500, 100))), plain(), False)
        self.check(Rule(((0, 3, 0), (1, 4, 0))), Rule(((0, 3, 1), (1, 4, 0))), False)

    def test_values_of_other_classes_are_not_equal(self):
        for value in (*ODD, *STRINGS, *INTEGERS, *TUPLES, plain().bands, str(plain())):
            with self.subTest(value=value):
                self.assertIs(plain() == value, False)
                self.assertIs(plain() != value, True)


class Wrong(unittest.TestCase):
    def refused(self, bands, index):
        """Both ways to pass the bands are refused, with this index."""
        for make in (lambda: Rule(bands), lambda: Rule(bands=bands)):
            with self.subTest(bands=bands):
                with self.assertRaises(InvalidBands) as caught:
                    make()
                if index is None:
                    self.assertIsNone(caught.exception.index)
                else:
                    self.assertIs(type(caught.exception.index), int)
                    self.assertEqual(caught.exception.index, index)

    def test_no_tuple(self):
        for value in (*ODD, *STRINGS, *INTEGERS, list(DUES), list(EIGHT), Rule(DUES)):
            self.refused(value, None)

    def test_no_bands(self):
        self.refused((), None)

    def test_the_ninth_band(self):
        ninth = (100, 0, 0)
        self.refused((*EIGHT, ninth), 8)
        self.refused((*EIGHT, ninth, (200, 0, 0)), 8)
        self.refused((*EIGHT, None), 8)
        self.refused((*EIGHT[:7], (0, 0, 0), ninth), 7)
        self.refused((None, *EIGHT), 0)

    def test_elements_that_are_no_triples(self):
        for value in (*ODD, *STRINGS, *INTEGERS, [0, 0, 100], list(DUES[1])):
            self.refused((value,), 0)
            self.refused((*DUES, value), 2)
        for value in ((), (0,), (0, 0), (0, 0, 100, 0), ((0, 0, 100),), DUES):
            self.refused((value,), 0)
        for value in ((), (2000,), (2000, 0), (2000, 0, 100, 0), ((2000, 0, 100),)):
            self.refused((*DUES, value), 2)

    def test_numbers_that_are_no_integers(self):
        for value in (*ODD, *STRINGS, *TUPLES):
            self.refused(((value, 0, 100),), 0)
            self.refused(((0, value, 100),), 0)
            self.refused(((0, 0, value),), 0)
            self.refused(((0, 0, 100), (value, 0, 100)), 1)
            self.refused(((0, 0, 100), (7, value, 100)), 1)
            self.refused(((0, 0, 100), (7, 0, value)), 1)

    def test_true_and_false_are_no_numbers(self):
        self.refused(((False, 0, 100),), 0)
        self.refused(((0, False, 100),), 0)
        self.refused(((0, True, 100),), 0)
        self.refused(((0, 0, True),), 0)
        self.refused(((0, 0, False),), 0)
        self.refused(((0, 0, 100), (True, 0, 100)), 1)

    def test_numbers_one_beyond_their_bounds(self):
        self.refused(((-1, 0, 100),), 0)
        self.refused(((0, -1, 100),), 0)
        self.refused(((0, 10 ** 32 + 1, 100),), 0)
        self.refused(((0, 0, 1001),), 0)
        self.refused(((0, 10 ** 32, -1001), (1, 0, 0)), 0)
        self.refused(((0, 0, 100), (10 ** 29 + 1, 0, 100)), 1)
        self.refused(((0, 0, 100), (5, -1, 100)), 1)
        self.refused(((0, 0, 100), (5, 10 ** 32 + 1, 100)), 1)
        self.refused(((0, 0, 100), (5, 0, 1001)), 1)
        self.refused(((0, 0, 100), (5, 10 ** 32, -1001), (6, 0, 0)), 1)
        self.refused(((0, 0, 10 ** 79),), 0)

    def test_first_start_is_0(self):
        self.refused(((1, 0, 100),), 0)
        self.refused(((1, 0, 100), (2, 0, 100)), 0)
        self.refused(((10 ** 29, 0, 100),), 0)

    def test_starts_rise(self):
        self.refused(((0, 0, 100), (0, 0, 100)), 1)
        self.refused(((0, 0, 100), (-1, 0, 100)), 1)
        self.refused(((0, 0, 100), (5, 0, 100), (5, 0, 100)), 2)
        self.refused(((0, 0, 100), (5, 0, 100), (4, 0, 100)), 2)
        self.refused(((0, 0, 100), (5, 0, 100), (0, 0, 100)), 2)
        self.refused(((0, 0, 100), (10 ** 29, 0, 100), (10 ** 29, 0, 100)), 2)
        self.assertEqual(len(Rule(((0, 0, 100), (1, 0, 100), (2, 0, 100)))), 3)

    def test_the_first_of_several_wrong_ones(self):
        self.refused(((0, 0, 100), None, (5, 0), [], (3, 0, 0)), 1)
        self.refused(((0, 0, 100), (5, 0, 0), (5, 0, 0), (1, 0, 0)), 2)
        self.refused(((0, 0, 2000), (0, 0, 100)), 0)

    def test_less_than_0_left(self):
        self.refused(((0, 10, -3), (5, 0, 1)), 0)
        self.refused(((0, 0, -1), (2, 0, 0)), 0)
        self.refused(((0, 0, 1), (10, 20, -7), (20, 0, 0)), 1)
        # The last income of this band is 10 ** 28 - 1 above its start.
        fall = 1000 * (10 ** 28 - 1)
        self.refused(((0, 0, 0), (9 * 10 ** 28, fall - 1, -1000), (10 ** 29, 0, 0)), 1)
        self.assertEqual(Rule(((0, 0, 0), (9 * 10 ** 28, fall, -1000), (10 ** 29, 0, 0))).left(10 ** 29 - 1), 0)

    def test_less_than_0_only_at_the_last_income_of_a_band(self):
        self.refused(((0, 11, -3), (5, 0, 1)), 0)
        self.refused(((0, 12, -3), (6, 0, 1)), 0)
        self.refused(((0, 0, 1), (7, 999, -1000), (9, 0, 1)), 1)
        for bands in (((0, 12, -3), (5, 0, 1)), ((0, 11, -3), (4, 0, 1)), ((0, 0, 1), (7, 1000, -1000), (9, 0, 1)),
                      ((0, 0, -1), (1, 0, 0))):
            with self.subTest(bands=bands):
                self.assertIs(Rule(bands).bands, bands)

    def test_less_than_0_in_the_band_without_end(self):
        self.refused(((0, 10 ** 32, -1),), 0)
        self.refused(((0, 0, -1),), 0)
        self.refused(((0, 0, 100), (10 ** 29, 10 ** 32, -1)), 1)
        self.refused((*EIGHT[:7], (100, 10 ** 32, -1000)), 7)

    def test_the_first_of_several_bands_that_leave_less_than_0(self):
        self.refused(((0, 9, 0), (3, 0, -1), (9, 0, 0), (12, 0, -1)), 1)

    def test_wrong_elements_are_told_ahead_of_less_than_0(self):
        self.refused(((0, 0, -1), (5, 0, 0), (5, 0, 0)), 2)
        self.refused(((0, 0, -1), (5, 0, 0), None), 2)
        self.refused(((0, 0, -1), *EIGHT[1:], (100, 0, 0)), 8)
        self.refused(((0, 0, -1), (5, 0, 1001)), 1)

    def test_small_bands_are_refused_exactly_if_less_than_0_is_left(self):
        numbers = itertools.product(range(4), (-2, -1, 0, 1), range(1, 4), range(4), (-2, -1, 0, 1))
        for value, step, start, beyond, further in numbers:
            bands = ((0, value, step), (start, beyond, further))
            first = any(value + step * income < 0 for income in range(start))
            second = any(beyond + further * income < 0 for income in range(9))
            if first or second:
                self.refused(bands, 0 if first else 1)
            else:
                self.assertEqual(Rule(bands).bands, bands)


class Left(unittest.TestCase):
    def test_0_and_the_ends_of_bands(self):
        incomes = (0, 1, 998, 999, 1000, 1001)
        self.assertEqual([Rule(DUES).left(x) for x in incomes], [0, 100, 99800, 99900, 100000, 100060])
        self.assertEqual([Rule(HELP).left(x) for x in incomes], [50000, 50020, 69960, 69980, 69980, 70060])
        falling = Rule(((0, 1000, -100), (10, 7, 0), (11, 90, -1), (20, 0, 3)))
        self.assertEqual([falling.left(x) for x in (0, 8, 9, 10, 11, 12, 19, 20, 21)],
                         [1000, 200, 100, 7, 90, 89, 82, 0, 3])

    def test_by_name(self):
        self.assertEqual(Rule(DUES).left(income=1500), 130000)

    def test_great_incomes(self):
        self.assertEqual(Rule(DUES).left(10 ** 30), 100000 + 60 * (10 ** 30 - 1000))
        self.assertEqual(Rule(((0, 10 ** 32, 1000),)).left(10 ** 30), 11 * 10 ** 32)
        self.assertEqual(Rule(((0, 0, 0),)).left(10 ** 30), 0)
        great = Rule(BOUNDS)
        self.assertEqual([great.left(10 ** 29 + x) for x in (-2, -1, 0, 1)],
                         [1000 * (10 ** 29 - 3), 10 ** 32, 10 ** 32, 10 ** 32 + 1000])

    def test_all_eight_bands(self):
        rule = Rule(EIGHT)
        for income in range(100):
            at = min(income // 10, 7)
            self.assertEqual(rule.left(income), 1000 * at + (100 - at) * (income - 10 * at))

    def test_no_integer_from_0_to_the_greatest_income(self):
        rule = Rule(DUES)
        for value in (*ODD, *STRINGS, *TUPLES, -1, -10 ** 30, 10 ** 30 + 1, 10 ** 79, Rule(DUES)):
            with self.subTest(value=value):
                for call in (lambda: rule.left(value), lambda: rule.left(income=value)):
                    with self.assertRaises(InvalidNumber) as caught:
                        call()
                    self.assertIs(caught.exception.given, value)
        self.assertEqual(rule.bands, DUES)
        self.assertEqual(rule.left(1000), 100000)


if __name__ == "__main__":
    unittest.main()

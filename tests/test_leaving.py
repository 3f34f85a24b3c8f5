import random
import unittest

import onebyone
from evenedshares.errors import NotARule
from evenedshares.leaving import above, leaves_more
from evenedshares.rules import Rule, plain
from refusing import Refusing
from strange import INTEGERS, ODD, STRINGS, TUPLES

PLAIN = ((0, 0, 100),)
DUES = ((0, 0, 100), (1000, 100000, 60))
HELP = ((0, 50000, 20), (1000, 69980, 80))
TURNED = ((0, 5, 0), (3, 4, 1))
FAR = 10 ** 29


class Checks(unittest.TestCase):
    def check(self, one, other, stretches):
        """These are the stretches, however the bands are passed; and it is told if there are none."""
        rule, against = Rule(one), Rule(other)
        with self.subTest(one=one, other=other):
            for found in (above(rule, against), above(one=rule, other=against), above(other=against, one=rule)):
                self.assertEqual(found, stretches)
                self.assertIs(type(found), tuple)
                for each in found:
                    self.assertEqual((type(each), type(each[0])), (tuple, int))
            for found in (leaves_more(against, rule), leaves_more(one=against, other=rule),
                          leaves_more(other=rule, one=against)):
                self.assertIs(found, stretches == ())
            self.assertEqual((rule.bands, against.bands), (one, other))


class Few(Checks):
    def test_examples_of_the_interface(self):
        self.check(HELP, DUES, ((0, 624), (2502, None)))
        self.check(DUES, PLAIN, ())
        self.check(((0, 1, 0), (2, 5, 3)), ((0, 1, 2),), ((3, None),))
        self.assertIs(leaves_more(plain(), Rule(DUES)), True)

    def test_as_much_is_not_above(self):
        for bands in (PLAIN, DUES, HELP, TURNED, ((0, 0, 0),)):
            self.check(bands, bands, ())
        self.check(PLAIN, ((0, 0, 100), (7, 700, 100)), ())
        self.check(((0, 0, 100), (7, 700, 100)), PLAIN, ())

    def test_everywhere(self):
        self.check(((0, 1, 100),), PLAIN, ((0, None),))
        self.check(((0, 1, 101),), PLAIN, ((0, None),))
        self.check(((0, 10, 0), (4, 60, 7), (9, 200, 20)), ((0, 9, 0), (5, 2, 6)), ((0, None),))

    def test_lines_that_cross(self):
        # Just at the income 5, between 4 and 5, and between 5 and 6.
        self.check(((0, 5, 1),), ((0, 0, 2),), ((0, 4),))
        self.check(((0, 0, 2),), ((0, 5, 1),), ((6, None),))
        self.check(((0, 9, 1),), ((0, 0, 3),), ((0, 4),))
        self.check(((0, 0, 3),), ((0, 9, 1),), ((5, None),))
        self.check(((0, 11, 1),), ((0, 0, 3),), ((0, 5),))
        self.check(((0, 0, 3),), ((0, 11, 1),), ((6, None),))
        # At once, and behind the first income.
        self.check(((0, 0, 3),), ((0, 0, 1),), ((1, None),))
        self.check(((0, 0, 1),), ((0, 0, 3),), ())
        self.check(((0, 1, 1),), ((0, 0, 3),), ((0, 0),))
        self.check(((0, 2, 1),), ((0, 0, 3),), ((0, 0),))
        self.check(((0, 3, 1),), ((0, 0, 3),), ((0, 1),))

    def test_stretches_of_one_income(self):
        self.check(((0, 0, 0), (4, 1, 0), (5, 0, 0)), ((0, 0, 0),), ((4, 4),))
        self.check(((0, 0, 1), (7, 8, 1), (8, 8, 1)), ((0, 0, 1),), ((7, 7),))
        self.check(((0, 1, 0), (1, 0, 0), (2, 1, 0), (3, 0, 0)), ((0, 0, 0),), ((0, 0), (2, 2)))
        # What such a band's step says plays no part.
        self.check(((0, 0, 0), (4, 1, -1000), (5, 0, 0)), ((0, 0, 0),), ((4, 4),))
        self.check(((0, 0, 0), (4, 0, 1000), (5, 0, 0)), ((0, 0, 0),), ())

    def test_two_stretches_in_the_same_band(self):
        one = ((0, 10, 1),)
        self.check(one, ((0, 5, 3), (5, 15, 0)), ((0, 2), (6, None)))
        self.check(one, ((0, 5, 3), (5, 15, 0), (9, 19, 0)), ((0, 2), (6, 8), (10, None)))
        self.check(((0, 5, 3), (5, 15, 0)), one, ((3, 4),))
        # And one each, where another one lies between.
        self.check(((0, 0, 0), (3, 5, 0), (6, 0, 0)), ((0, 4, 0), (1, 0, 0), (2, 5, 0), (4, 4, 0)), ((4, 5),))

    def test_stretches_that_go_on_over_the_ends_of_bands(self):
        self.check(((0, 5, 1), (4, 7, 2), (6, 20, 0), (9, 0, 0)), ((0, 0, 1), (5, 3, 0)), ((0, 8),))
        self.check(((0, 0, 1), (4, 9, 0), (6, 9, 1)), ((0, 2, 0), (5, 8, 0), (6, 5, 0)), ((3, None),))
        # It ends where a band ends, one before it, and one behind it.
        for end in (4, 5, 6, 7):
            self.check(((0, 1, 0), (end, 0, 0)), ((0, 0, 0), (5, 0, 0)), ((0, end - 1),))
            self.check(((0, 0, 0), (5, 0, 0)), ((0, 1, 0), (end, 0, 0)), ())
            self.check(((0, 0, 0), (end, 1, 0)), ((0, 0, 0), (5, 0, 0)), ((end, None),))

    def test_a_single_income_that_is_not_above_parts_two_stretches(self):
        self.check(((0, 1, 0), (5, 0, 0), (6, 1, 0)), ((0, 0, 0),), ((0, 4), (6, None)))
        self.check(((0, 1, 1), (5, 5, 1)), ((0, 0, 1),), ((0, 4),))
        self.check(((0, 1, 1),), ((0, 0, 1), (5, 6, 1), (6, 6, 1)), ((0, 4), (6, None)))
        # Two lines that touch at 5.
        self.check(((0, 5, 0),), ((0, 0, 1), (5, 5, -1), (9, 0, 0)), ((0, 4), (6, None)))

    def test_rules_that_turn_order(self):
        self.check(TURNED, PLAIN, ((0, 0),))
        self.check(PLAIN, TURNED, ((1, None),))
        falling = ((0, 12, -3), (4, 20, -7), (6, 1, 0))
        self.check(falling, ((0, 8, 0), (5, 14, 0), (6, 0, 0)), ((0, 1), (4, 4), (6, None)))


class Small(Checks):
    def test_rules_income_by_income(self):
        chance = random.Random(51)
        seen = {}
        for _ in range(2500):
            one = onebyone.some_bands(chance, 4, 8, 12, 3)
            other = onebyone.some_bands(chance, 4, 8, 12, 3)
            # Lines that cross behind the last start do so within 12 + 3 * 8 hundredths.
            stretches = onebyone.above(one, other, 60)
            self.assertEqual(above(Rule(one), Rule(other)), stretches, (one, other))
            self.assertIs(leaves_more(Rule(other), Rule(one)), stretches == ())
            seen[len(stretches)] = seen.get(len(stretches), 0) + 1
        self.assertTrue(all(seen.get(many, 0) > 50 for many in (0, 1, 2, 3)), seen)

    def test_one_above_or_below_or_neither(self):
        chance = random.Random(52)
        for _ in range(500):
            one = onebyone.some_bands(chance, 3, 5, 6, 2)
            other = onebyone.some_bands(chance, 3, 5, 6, 2)
            higher, lower = above(Rule(one), Rule(other)), above(Rule(other), Rule(one))
            for income in range(30):
                found = [any(first <= income and (last is None or income <= last) for first, last in stretches)
                         for stretches in (higher, lower)]
                ahead = onebyone.left(one, income) - onebyone.left(other, income)
                self.assertEqual(found, [ahead > 0, ahead < 0])


class Great(Checks):
    def test_far_starts(self):
        top = 100 * FAR
        self.check(((0, 0, 100), (FAR, top + 1, 100)), PLAIN, ((FAR, None),))
        self.check(((0, 1, 100), (FAR, top, 100)), PLAIN, ((0, FAR - 1),))
        self.check(((0, 0, 100), (FAR - 1, top - 99, 0), (FAR, 0, 100)), PLAIN, ((FAR - 1, FAR - 1),))
        self.check(((0, 0, 100), (FAR, top - 1, 101)), PLAIN, ((FAR + 2, None),))

    def test_lines_that_cross_far_out(self):
        value = 10 ** 32
        self.check(((0, value, 0),), ((0, 0, 1),), ((0, value - 1),))
        self.check(((0, 0, 1),), ((0, value, 0),), ((value + 1, None),))
        self.check(((0, value, 999),), ((0, 0, 1000),), ((0, value - 1),))
        self.check(((0, value, 993),), ((0, 0, 1000),), ((0, value // 7),))
        self.check(((0, 0, 1000),), ((0, value, 993),), ((value // 7 + 1, None),))
        self.check(((0, 0, 0), (FAR, 0, 1000)), ((0, value, 0),), ((FAR + 10 ** 29 + 1, None),))
        self.check(((0, 0, 0), (FAR, 0, 1000)), ((0, value - 1, 0),), ((2 * FAR, None),))

    def test_eight_bands(self):
        starts = [at * 10 ** 28 for at in range(8)]
        saw = tuple((start, 10 ** 31, -1000) for start in starts[:7]) + ((starts[7], 0, 0),)
        level = tuple((start, 10 ** 31 - 1000 * (at + 1), 0) for at, start in enumerate(starts))
        self.check(saw, level, tuple((start, start + at) for at, start in enumerate(starts[:7])))
        below = tuple((start + at + 2, starts[at + 1] - 1) for at, start in enumerate(starts[:6]))
        self.check(level, saw, below + ((starts[6] + 8, None),))

    def test_incomes_around_the_ends(self):
        chance = random.Random(53)
        many = 0
        for _ in range(400):
            one = onebyone.some_bands(chance, 8, FAR, 10 ** 32, 1000)
            other = onebyone.some_bands(chance, 8, FAR, 10 ** 32, 1000)
            stretches = above(Rule(one), Rule(other))
            before = -2
            for first, last in stretches:
                self.assertGreater(first, before + 1)
                before = last
                self.assertTrue(last is None or last >= first)
            for income in self.around(stretches, one + other):
                within = any(first <= income and (last is None or income <= last) for first, last in stretches)
                self.assertIs(onebyone.left(one, income) > onebyone.left(other, income), within, (one, other, income))
            many += len(stretches)
        self.assertGreater(many, 600)

    def around(self, stretches, bands):
        ends = [end for each in stretches for end in each if end is not None] + [band[0] for band in bands]
        return {near for end in ends for near in (end - 1, end, end + 1) if near >= 0} | {10 ** 34, 10 ** 45}


class Errors(Refusing):
    def test_no_rule(self):
        rule = Rule(DUES)
        for value in (*ODD, *STRINGS, *INTEGERS, *TUPLES, Rule, DUES, str(rule)):
            for action in (above, leaves_more):
                with self.subTest(value=value, action=action):
                    for call in (lambda: action(value, rule), lambda: action(other=rule, one=value),
                                 lambda: action(value, None)):
                        self.refused(call, NotARule, given=value)

    def test_no_other_rule_nor_none(self):
        rule = Rule(DUES)
        for value in (*ODD, *STRINGS, *INTEGERS, *TUPLES, Rule, DUES, str(rule)):
            for action in (above, leaves_more):
                with self.subTest(value=value, action=action):
                    for call in (lambda: action(rule, value), lambda: action(other=value, one=rule)):
                        self.refused(call, NotARule, given=value)
        self.assertIn(None, ODD)

    def test_the_first_is_looked_at_first(self):
        for action in (above, leaves_more):
            self.refused(lambda: action("one", "other"), NotARule, given="one")
            self.refused(lambda: action(other="other", one="one"), NotARule, given="one")
            self.refused(lambda: action(other=None, one="one"), NotARule, given="one")

    def test_an_other_rule_must_be_passed(self):
        for action in (above, leaves_more):
            with self.assertRaises(TypeError):
                action(Rule(DUES))

    def test_no_error_where_order_is_turned(self):
        rule = Rule(TURNED)
        self.assertEqual(above(rule, rule), ())
        self.assertIs(leaves_more(plain(), rule), False)
        self.assertIs(leaves_more(rule, plain()), False)


if __name__ == "__main__":
    unittest.main()

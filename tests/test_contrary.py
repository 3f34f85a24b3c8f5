import random
import unittest

import onebyone
from evenedshares.curves import crossing, is_as_even
from evenedshares.evening import breaking, contrary, evens_more
from evenedshares.purses import Purse, behind
from evenedshares.rules import Rule, plain

HELP = ((0, 50000, 20), (1000, 69980, 80))
FAR = 10 ** 29
MANY = 500


class Contrary(unittest.TestCase):
    def check(self, one, other=None):
        """A purse is shown, and what the rules leave of it shows it."""
        rule, against = Rule(one), None if other is None else Rule(other)
        with self.subTest(one=one, other=other):
            shown = contrary(rule, against)
            self.assertIs(type(shown), Purse)
            self.assertEqual(contrary(one=rule, other=against), shown)
            self.assertEqual(contrary(other=against, one=rule), shown)
            self.assertLessEqual(shown.kinds[-1][0], 10 ** 30)
            less, more = behind(rule, shown), behind(plain() if other is None else against, shown)
            self.assertIs(is_as_even(less, more), False)
            self.assertIsNotNone(crossing(less, more))
            if shown.people < MANY:
                others = ((0, 0, 100),) if other is None else other
                self.assertFalse(onebyone.as_even(onebyone.behind(one, shown.kinds),
                                                  onebyone.behind(others, shown.kinds)))
        return shown

    def none(self, one, other=None):
        against = None if other is None else Rule(other)
        self.assertIsNone(contrary(Rule(one), against))
        self.assertIsNone(contrary(other=against, one=Rule(one)))

    def test_examples_of_the_interface(self):
        shown = self.check(HELP)
        help_ = Rule(HELP)
        self.assertIs(is_as_even(behind(help_, shown), shown), False)
        self.assertIsNone(contrary(Rule(((0, 0, 100), (1000, 100000, 60)))))

    def test_none_where_it_evens_more(self):
        self.none(((0, 0, 100),))
        self.none(((0, 0, 0),))
        self.none(((0, 5, 0),), ((0, 0, 0),))
        self.none(HELP, HELP)

    def test_shares_spread(self):
        self.check(((0, 0, 0), (1, 0, 100)))
        self.check(((0, 0, 100), (10, 1001, 100)))
        self.check(((0, 0, 1),), ((0, 1, 1),))
        self.check(((0, 0, 1),), ((0, 10 ** 32, 1),))

    def test_the_other_rule_is_level(self):
        self.check(((0, 0, 1),), ((0, 0, 0),))
        self.check(((0, 0, 1),), ((0, 7, 0),))
        self.check(((0, 4, 0), (5, 3, 0)), ((0, 7, 0),))
        self.check(((0, 4, 0), (5, 0, 0)), ((0, 0, 0),))
        self.check(((0, 10 ** 32, 0), (FAR, 10 ** 32 - 1, 0)), ((0, 7, 0),))

    def test_the_order_is_turned(self):
        # Behind the rule the two are nearer to each other: it takes others to show that it does not even.
        self.check(((0, 5, 0), (3, 4, 1)))
        self.check(((0, 101, -1), (2, 100, 0)))
        self.check(((0, 101, 0), (1, 100, 100)))
        self.check(((0, 0, 100), (3, 299, 100), (4, 0, 0)), ((0, 0, 100),))
        self.check(((0, 10 ** 32, 0), (1, 10 ** 32 - 1, 0)))

    def test_the_order_is_turned_down_to_nothing(self):
        self.check(((0, 5, 0), (3, 0, 0)))
        self.check(((0, 1, 0), (1, 0, 0)))
        self.check(((0, 1, 0), (1, 0, 0)), ((0, 10 ** 32, 1),))
        self.check(((0, 10 ** 32, 0), (FAR, 0, 0)))

    def test_nothing_left_of_the_lower_one_by_the_other_rule(self):
        self.check(((0, 2, 0), (1, 1, 0)), ((0, 0, 1),))
        self.check(((0, 2, 0), (1, 1, 0)), ((0, 0, 0), (1, 10 ** 32, 0)))
        self.check(((0, 10 ** 32, 0), (1, 10 ** 32 - 1, 0)), ((0, 0, 1),))

    def test_very_many_people_are_shown_where_it_takes_them(self):
        shown = self.check(((0, 10 ** 32, 0), (FAR, 10 ** 32 - 1, 0)), ((0, 0, 0), (FAR, 10 ** 32, 1000)))
        self.assertGreater(shown.people, 10 ** 32)
        shown = self.check(((0, 10 ** 32, 1000), (FAR, 10 ** 32, 1000)), ((0, 0, 1), (FAR, 10 ** 32, 0)))
        self.assertLessEqual(shown.people, 10 ** 34)

    def test_incomes_far_out(self):
        self.check(((0, 0, 100), (FAR, 10 ** 31 - 101, 100)))
        self.check(((0, 0, 100), (FAR, 10 ** 31 + 1, 100)))
        self.check(((0, 0, 100), (FAR, 10 ** 31, 101)))
        self.check(((0, 0, 100), (FAR - 1, 10 ** 31 - 100, 100), (FAR, 10 ** 31 - 1, 100)))
        shown = self.check(((0, 1, 100), (FAR, 10 ** 31, 101)))
        self.assertGreaterEqual(shown.kinds[-1][0], FAR)

    def test_small_rules(self):
        chance = random.Random(21)
        turned = spread = 0
        for _ in range(700):
            one = onebyone.some_bands(chance, 4, 8, 12, 3, ordered=chance.random() < 0.3)
            other = onebyone.some_bands(chance, 4, 8, 12, 3, ordered=True)
            first = breaking(Rule(one), Rule(other))
            if first is None:
                self.none(one, other)
                continue
            self.check(one, other)
            if onebyone.left(one, first) > onebyone.left(one, first + 1):
                turned += 1
            else:
                spread += 1
        self.assertGreater(min(turned, spread), 100)

    def test_great_rules(self):
        chance = random.Random(22)
        for _ in range(300):
            one = onebyone.some_bands(chance, 8, FAR, 10 ** 32, 1000, ordered=chance.random() < 0.5)
            other = onebyone.some_bands(chance, 8, FAR, 10 ** 32, 1000, ordered=True)
            if evens_more(Rule(one), Rule(other)):
                self.none(one, other)
            else:
                self.check(one, other)


if __name__ == "__main__":
    unittest.main()

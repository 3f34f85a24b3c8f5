import itertools
import unittest

from evenedshares.errors import InvalidBands, NotARule
from evenedshares.rules import Rule, keeps_order, plain
from strange import INTEGERS, ODD, STRINGS, TUPLES

ORDERED = (
    ((0, 0, 100),),
    ((0, 0, 0),),
    ((0, 10 ** 32, 0),),
    ((0, 0, 100), (1000, 100000, 60)),
    # A cliff up, by one hundredth, too.
    ((0, 0, 100), (10, 2000, 0)),
    ((0, 5, 0), (10, 6, 0)),
    # Level over the start of a band.
    ((0, 5, 0), (10, 5, 0)),
    ((0, 0, 100), (10, 900, 100)),
    ((0, 0, 100), (10 ** 29, 100 * (10 ** 29 - 1), 1)),
    # Falling steps play no part in bands for a single income.
    ((0, 5, -5), (1, 5, 0)),
    ((0, 0, 100), (10, 1000, -1000), (11, 1000, 0)),
)
TURNED = (
    # Cliffs down, by one hundredth, too.
    ((0, 5, 0), (3, 4, 1)),
    ((0, 5, 0), (10, 4, 1000)),
    ((0, 0, 100), (10, 899, 100)),
    ((0, 0, 100), (10, 0, 100)),
    ((0, 9, 0), (1, 8, 0)),
    ((0, 0, 100), (10 ** 29, 100 * (10 ** 29 - 1) - 1, 1000)),
    ((0, 0, 100), (5, 500, 100), (10, 899, 0)),
    ((0, 0, 100), (10, 1000, -1000), (11, 999, 0)),
    # Falling bands, from the first income to the second at least.
    ((0, 5, -1), (2, 5, 0)),
    ((0, 50, -10), (5, 60, 0)),
    ((0, 0, 100), (10, 1000, -1), (12, 2000, 0)),
    ((0, 0, 0), (10 ** 28, 10 ** 32, -1000), (10 ** 29, 10 ** 32, 0)),
)


class KeepsOrder(unittest.TestCase):
    def test_rules_that_keep_order(self):
        for bands in ORDERED:
            with self.subTest(bands=bands):
                self.assertIs(keeps_order(Rule(bands)), True)
                self.assertIs(keeps_order(rule=Rule(bands)), True)

    def test_rules_that_turn_order(self):
        for bands in TURNED:
            with self.subTest(bands=bands):
                self.assertIs(keeps_order(Rule(bands)), False)
                self.assertIs(keeps_order(rule=Rule(bands)), False)

    def test_plain_rule_keeps_order(self):
        self.assertIs(keeps_order(plain()), True)

    def test_small_rules_as_their_incomes_say(self):
        numbers = itertools.product(range(4), (-2, -1, 0, 1), range(1, 4), range(4), (-1, 0, 1),
                                    range(1, 3), range(4), (0, 1))
        looked = 0
        for value, step, start, beyond, further, stretch, third, rise in numbers:
            try:
                rule = Rule(((0, value, step), (start, beyond, further), (start + stretch, third, rise)))
            except InvalidBands:
                continue
            left = [rule.left(income) for income in range(8)]
            self.assertIs(keeps_order(rule), left == sorted(left), rule.bands)
            looked += 1
        self.assertGreater(looked, 1000)

    def test_no_rule(self):
        for value in (*ODD, *STRINGS, *INTEGERS, *TUPLES, Rule, plain, plain().bands, str(plain())):
            with self.subTest(value=value):
                for call in (lambda: keeps_order(value), lambda: keeps_order(rule=value)):
                    with self.assertRaises(NotARule) as caught:
                        call()
                    self.assertIs(caught.exception.given, value)


if __name__ == "__main__":
    unittest.main()

import itertools
import unittest

import onebyone
from evenedshares.errors import InvalidBands, NotAPurse, NotARule, TooMuch
from evenedshares.purses import Purse, behind, taken
from evenedshares.rules import Rule, plain
from strange import INTEGERS, ODD, STRINGS, TUPLES

DUES = Rule(((0, 0, 100), (1000, 100000, 60)))
HELP = Rule(((0, 50000, 20), (1000, 69980, 80)))
LEVEL = Rule(((0, 7, 0),))
# It turns the order of all incomes up to 10.
TURNING = Rule(((0, 1000, -100), (11, 2000, 0)))
TOWN = Purse(((0, 2), (500, 10), (3000, 1)))
# The least purse with an amount beyond those of incomes, and the greatest one of incomes.
BEYOND = Purse(((3, 1), (10 ** 30 + 1, 1)))
FURTHEST = Purse(((3, 1), (10 ** 30, 2)))


class Examples(unittest.TestCase):
    def test_examples_of_the_interface(self):
        self.assertEqual(
            [TOWN.people, TOWN.total, str(TOWN).split("\n")[1], behind(DUES, TOWN).kinds, taken(DUES, TOWN),
             taken(HELP, TOWN), Purse.read("7 of 0").total],
            [13, 8000, "10 of 500", ((0, 2), (50000, 10), (220000, 1)), 80000, -129980, 0])


class Behind(unittest.TestCase):
    def check(self, rule, purse, kinds):
        for found in (behind(rule, purse), behind(rule=rule, purse=purse)):
            self.assertIs(type(found), Purse)
            self.assertEqual(found.kinds, kinds)

    def test_each_has_what_the_rule_leaves(self):
        self.check(plain(), TOWN, ((0, 2), (50000, 10), (300000, 1)))
        self.check(HELP, TOWN, ((50000, 2), (60000, 10), (229980, 1)))
        self.check(DUES, Purse(((999, 3), (1000, 4), (1001, 5))), ((99900, 3), (100000, 4), (100060, 5)))

    def test_kinds_with_the_same_amount_are_put_together(self):
        self.check(LEVEL, TOWN, ((7, 13),))
        self.check(HELP, Purse(((998, 1), (999, 2), (1000, 3), (1001, 4))), ((69960, 1), (69980, 5), (70060, 4)))
        # Kinds with others between them, too.
        self.check(Rule(((0, 5, 0), (1, 3, 0), (2, 5, 0), (3, 3, 0))), Purse(((0, 1), (1, 2), (2, 4), (3, 8))),
                   ((3, 10), (5, 5)))

    def test_kinds_are_ascending_where_the_order_is_turned(self):
        self.check(TURNING, Purse(((0, 1), (1, 2), (10, 3))), ((0, 3), (900, 2), (1000, 1)))
        self.check(TURNING, Purse(((2, 1), (5, 2), (11, 3), (12, 4))), ((500, 2), (800, 1), (2000, 7)))
        self.check(Rule(((0, 0, 100), (10, 500, 100))), Purse(((5, 1), (7, 2), (10, 4))), ((500, 5), (700, 2)))

    def test_great_incomes(self):
        self.check(plain(), FURTHEST, ((300, 1), (10 ** 32, 2)))
        self.check(Rule(((0, 10 ** 32, 1000),)), Purse(((10 ** 30, 10 ** 72),)), ((11 * 10 ** 32, 10 ** 72),))
        thirty = tuple((10 ** 30 - 29 + at, 10 ** 72) for at in range(30))
        self.check(plain(), Purse(thirty), tuple((100 * amount, count) for amount, count in thirty))

    def test_small_purses_person_by_person(self):
        rules = (DUES, HELP, LEVEL, TURNING, Rule(((0, 5, 0), (1, 3, 1), (3, 0, 5))), Rule(((0, 4, -2), (3, 0, 1))))
        for rule, kinds in itertools.product(rules, onebyone.purses(4, 4)):
            self.assertEqual(behind(rule, Purse(kinds)).kinds, onebyone.behind(rule.bands, kinds))

    def test_what_was_passed_stays(self):
        purse = Purse(TOWN.kinds)
        behind(LEVEL, purse)
        self.assertEqual((purse.kinds, LEVEL.bands), (TOWN.kinds, ((0, 7, 0),)))
        self.assertEqual(behind(DUES, purse), behind(DUES, purse))


class Taken(unittest.TestCase):
    def check(self, rule, purse, sum_taken):
        for found in (taken(rule, purse), taken(rule=rule, purse=purse)):
            self.assertIs(type(found), int)
            self.assertEqual(found, sum_taken)

    def test_above_and_below_0(self):
        self.check(plain(), TOWN, 0)
        self.check(DUES, TOWN, 80000)
        self.check(HELP, TOWN, -129980)
        self.check(LEVEL, Purse(((0, 3),)), -21)
        self.check(Rule(((0, 0, 0),)), TOWN, 800000)
        # Nobody pays below 1000, and one beyond it pays 40 hundredths.
        self.check(DUES, Purse(((999, 5), (1001, 1))), 40)

    def test_great_incomes(self):
        self.check(Rule(((0, 0, 0),)), Purse(((10 ** 30, 10 ** 72),)), 10 ** 104)
        self.check(Rule(((0, 10 ** 32, 1000),)), Purse(((10 ** 30, 10 ** 72),)), -10 ** 105)
        self.check(DUES, FURTHEST, 2 * 40 * (10 ** 30 - 1000))

    def test_100_times_the_total_less_that_behind(self):
        rules = (DUES, HELP, LEVEL, TURNING, Rule(((0, 5, 0), (1, 300, 1), (3, 0, 5))))
        for rule, kinds in itertools.product(rules, onebyone.purses(3, 5)):
            purse = Purse(kinds)
            self.check(rule, purse, 100 * purse.total - behind(rule, purse).total)

    def test_no_limit_of_people(self):
        self.check(LEVEL, Purse(((0, 10 ** 72), (1, 1))), 100 - 7 * (10 ** 72 + 1))
        thirty = Purse(tuple((at, 10 ** 72) for at in range(30)))
        self.check(LEVEL, thirty, 100 * thirty.total - 7 * 30 * 10 ** 72)


class Refusing(unittest.TestCase):
    def refused(self, call, error, given):
        with self.assertRaises(error) as caught:
            call()
        self.assertIs(type(caught.exception), error)
        self.assertEqual(caught.exception.given, given)
        return caught.exception.given

    def test_no_rule(self):
        for value in (*ODD, *STRINGS, *INTEGERS, *TUPLES, Rule, DUES.bands, str(DUES), TOWN):
            for action in (behind, taken):
                with self.subTest(value=value, action=action):
                    for call in (lambda: action(value, TOWN), lambda: action(purse=TOWN, rule=value)):
                        with self.assertRaises(NotARule) as caught:
                            call()
                        self.assertIs(caught.exception.given, value)

    def test_no_purse(self):
        for value in (*ODD, *STRINGS, *INTEGERS, *TUPLES, Purse, TOWN.kinds, str(TOWN), DUES):
            for action in (behind, taken):
                with self.subTest(value=value, action=action):
                    for call in (lambda: action(DUES, value), lambda: action(purse=value, rule=DUES)):
                        with self.assertRaises(NotAPurse) as caught:
                            call()
                        self.assertIs(caught.exception.given, value)

    def test_the_rule_is_looked_at_first(self):
        for action in (behind, taken):
            self.refused(lambda: action(None, "none"), NotARule, None)
            self.refused(lambda: action(purse="none", rule=None), NotARule, None)
            self.refused(lambda: action("none", BEYOND), NotARule, "none")

    def test_amounts_beyond_those_of_incomes(self):
        for action in (behind, taken):
            self.refused(lambda: action(DUES, BEYOND), TooMuch, 10 ** 30 + 1)
            self.refused(lambda: action(rule=LEVEL, purse=BEYOND), TooMuch, 10 ** 30 + 1)
            # The greatest of several.
            several = Purse(((10 ** 30 + 1, 10 ** 72), (10 ** 31, 3), (10 ** 36, 10 ** 72)))
            self.refused(lambda: action(LEVEL, several), TooMuch, 10 ** 36)
            action(DUES, FURTHEST)

    def test_more_people_put_together_than_a_kind_may_have(self):
        self.refused(lambda: behind(LEVEL, Purse(((0, 10 ** 72), (1, 1)))), TooMuch, 10 ** 72 + 1)
        self.refused(lambda: behind(rule=LEVEL, purse=Purse(((0, 1), (1, 10 ** 72)))), TooMuch, 10 ** 72 + 1)
        # The count is that of all who are put together.
        thirty = Purse(tuple((at, 10 ** 72) for at in range(30)))
        self.refused(lambda: behind(LEVEL, thirty), TooMuch, 30 * 10 ** 72)
        turning = Purse(((0, 5), (11, 10 ** 72), (12, 2), (13, 1)))
        self.refused(lambda: behind(TURNING, turning), TooMuch, 10 ** 72 + 3)
        self.assertEqual(turning.kinds, ((0, 5), (11, 10 ** 72), (12, 2), (13, 1)))

    def test_as_many_people_as_a_kind_may_have(self):
        self.assertEqual(behind(LEVEL, Purse(((0, 10 ** 72 - 1), (1, 1)))).kinds, ((7, 10 ** 72),))
        self.assertEqual(behind(LEVEL, Purse(((9, 10 ** 72),))).kinds, ((7, 10 ** 72),))
        self.assertEqual(behind(plain(), Purse(((0, 10 ** 72), (1, 1)))).kinds, ((0, 10 ** 72), (100, 1)))

    def test_amounts_are_looked_at_ahead_of_people(self):
        both = Purse(((0, 10 ** 72), (10 ** 30 + 1, 1)))
        self.refused(lambda: behind(LEVEL, both), TooMuch, 10 ** 30 + 1)


class Exhaustive(unittest.TestCase):
    def test_all_small_rules_with_one_purse(self):
        kinds = ((0, 1), (1, 3), (2, 1), (3, 2), (5, 1))
        looked = 0
        for value, step, start, beyond, further in itertools.product(
                range(4), (-2, -1, 0, 1), range(1, 5), range(4), (0, 1)):
            try:
                rule = Rule(((0, value, step), (start, beyond, further)))
            except InvalidBands:
                continue
            self.assertEqual(behind(rule, Purse(kinds)).kinds, onebyone.behind(rule.bands, kinds))
            looked += 1
        self.assertGreater(looked, 250)


if __name__ == "__main__":
    unittest.main()

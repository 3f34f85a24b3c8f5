import random
import unittest

import onebyone
from evenedshares.errors import NotARule, OrderTurned
from evenedshares.evening import evens_more, least_lump
from evenedshares.rules import Rule, keeps_order, plain
from evenedshares.views import evens_differences, views
from refusing import Refusing
from strange import INTEGERS, ODD, STRINGS, TUPLES

PLAIN = ((0, 0, 100),)
DUES = ((0, 0, 100), (1000, 100000, 60))
HELP = ((0, 50000, 20), (1000, 69980, 80))
TURNED = ((0, 5, 0), (3, 4, 1))
FAR = 10 ** 29
# Beyond all starts of the small rules nothing is different any more.
SMALL_END = 12


class Checks(unittest.TestCase):
    def check(self, one, other, expected):
        """These are the views, however the bands are passed."""
        rule, against = Rule(one), None if other is None else Rule(other)
        with self.subTest(one=one, other=other):
            answers = [views(rule, against), views(one=rule, other=against), views(other=against, one=rule)]
            if other is None:
                answers += [views(rule), views(one=rule), views(rule, plain())]
            for found in answers:
                self.assertEqual(found, expected)
                self.assertEqual([type(number) for number in found or ()], [type(number) for number in expected or ()])
            # By the view 0 it evens more as it does at all.
            self.assertIs(evens_more(rule, against), expected is not None and expected[0] == 0)
            self.assertEqual((rule.bands, None if other is None else against.bands), (one, other))

    def check_at(self, one, other, some):
        """By each of these views, and by those around the least and the greatest, it is told what holds."""
        found = views(Rule(one), Rule(other))
        least, greatest = found if found is not None else (0, -1)
        at_ends = [least - 1, least, least + 1]
        if greatest is not None:
            at_ends += [greatest, greatest + 1]
        for view in (*some, *at_ends):
            if view >= 0:
                within = least <= view and (greatest is None or view <= greatest)
                self.assertIs(onebyone.evens_by_view(one, other, view, SMALL_END), within, (one, other, view))
        if found is None:
            return "none"
        if greatest is None:
            return "from" if least else "all"
        return "between" if least else "to"


class Few(Checks):
    def test_examples_of_the_interface(self):
        self.check(DUES, None, (0, None))
        self.check(HELP, None, (50100, None))
        self.check(((0, 0, 120),), None, (0, 0))
        self.check(TURNED, None, None)

    def test_all_views(self):
        for one, other in ((PLAIN, None), (((0, 0, 0),), None), (((0, 7, 0),), PLAIN), (DUES, DUES), (HELP, HELP),
                           (((0, 5, 1),), ((0, 5, 1),)), (((0, 5, 0),), ((0, 9, 0),)), (((0, 1, 100),), None)):
            self.check(one, other, (0, None))

    def test_no_view(self):
        # The other rule is level, or the order is turned.
        self.check(((0, 0, 1),), ((0, 5, 0),), None)
        self.check(((0, 5, 0), (1, 4, 0)), ((0, 5, 0),), None)
        self.check(((0, 5, 0), (1, 4, 100)), None, None)
        # As great differences of less, and greater ones of no more.
        self.check(((0, 0, 100),), ((0, 1, 100),), None)
        self.check(((0, 0, 101),), ((0, 1, 100),), None)
        self.check(((0, 0, 0), (3, 0, 100)), None, None)

    def test_a_least_view(self):
        self.check(((0, 0, 1),), ((0, 5, 2),), (5, None))
        self.check(((0, 2, 1),), ((0, 5, 2),), (1, None))
        self.check(((0, 3, 1),), ((0, 5, 2),), (0, None))
        # Rounded up.
        self.check(((0, 0, 3),), ((0, 5, 5),), (8, None))
        self.check(((0, 0, 3),), ((0, 4, 5),), (6, None))
        # The greatest of several: in the first band, in the second one, and where it begins.
        self.check(((0, 0, 1), (4, 3, 0)), ((0, 5, 2), (4, 13, 0)), (5, None))
        self.check(((0, 0, 1), (4, 4, 1)), ((0, 5, 2), (4, 14, 2)), (6, None))
        self.check(((0, 0, 1), (4, 6, 1)), ((0, 5, 2), (4, 15, 2)), (21, None))

    def test_a_greatest_view(self):
        self.check(((0, 0, 1000),), None, (0, 0))
        self.check(((0, 10, 2),), ((0, 5, 1),), (0, 0))
        self.check(((0, 11, 2),), ((0, 5, 1),), (0, 1))
        self.check(((0, 12, 2),), ((0, 5, 1),), (0, 2))
        self.check(((0, 9, 2),), ((0, 5, 1),), None)
        # Rounded down.
        self.check(((0, 100, 7),), ((0, 1, 2),), (0, 38))
        # The least of several.
        self.check(((0, 100, 7), (3, 121, 7)), ((0, 1, 2), (3, 7, 2)), (0, 38))
        self.check(((0, 100, 7), (3, 121, 7)), ((0, 1, 2), (3, 8, 2)), (0, 37))

    def test_a_least_and_a_greatest_view(self):
        one = ((0, 100, 7), (3, 121, 1))
        self.check(one, ((0, 1, 2), (3, 242, 2)), (0, 38))
        self.check(one, ((0, 1, 2), (3, 243, 2)), (1, 38))
        self.check(one, ((0, 1, 2), (3, 260, 2)), (18, 38))
        # A single one, and none.
        self.check(one, ((0, 1, 2), (3, 280, 2)), (38, 38))
        self.check(one, ((0, 1, 2), (3, 281, 2)), None)

    def test_a_cliff_between_two_bands(self):
        # From 4 to 5: 100 * 480 is to be 101 * 475 at least, by the view 0 it is more.
        self.check(((0, 95, 95), (5, 569, 0)), None, (0, None))
        self.check(((0, 0, 0), (1, 99, 0)), None, (0, None))
        self.check(((0, 0, 0), (2, 99, 0)), None, (9900, None))
        self.check(((0, 0, 0), (2, 100, 0)), None, None)
        self.check(((0, 200, 0), (1, 301, 0)), None, (0, 20000))
        self.check(((0, 200, 0), (1, 301, 0)), ((0, 100, 0), (1, 150, 0)), None)
        self.check(((0, 200, 0), (1, 300, 0)), ((0, 100, 0), (1, 150, 0)), (0, 0))
        self.check(((0, 200, 0), (1, 299, 0)), ((0, 100, 0), (1, 150, 0)), (0, 2))

    def test_bands_for_one_income(self):
        self.check(((0, 0, 100), (5, 500, -100), (6, 600, 100)), None, (0, None))
        self.check(PLAIN, ((0, 0, 100), (5, 500, -100), (6, 600, 100)), (0, None))


class Small(Checks):
    def test_rules_by_each_of_many_views(self):
        chance = random.Random(31)
        seen = {"none": 0, "all": 0, "from": 0, "to": 0, "between": 0}
        for at in range(900):
            one = onebyone.some_bands(chance, (3, 2, 1)[at % 3], 5, 12, 3, ordered=at % 5 > 0)
            other = onebyone.some_bands(chance, (3, 2, 1)[at % 3], 5, 12, 3, ordered=True)
            seen[self.check_at(one, other, [*range(16), 40, 100, 400, 10 ** 6])] += 1
        self.assertTrue(all(seen[kind] > 10 for kind in ("none", "all", "from", "to")), seen)

    def test_views_with_two_ends(self):
        """What one rule leaves more at first than the other one, it leaves less later."""
        chance = random.Random(32)
        seen = {"none": 0, "all": 0, "from": 0, "to": 0, "between": 0}
        for _ in range(600):
            value, step = chance.randint(40, 90), chance.randint(2, 6)
            one = ((0, value, step), (3, value + 3 * step, chance.randint(0, 2)))
            other = ((0, chance.randint(0, 6), chance.randint(1, 3)), (3, chance.randint(100, 250), 3))
            seen[self.check_at(one, other, [*range(0, 60, 3), 1000])] += 1
        self.assertGreater(seen["between"], 10, seen)

    def test_rules_beside_the_plain_rule(self):
        chance = random.Random(33)
        for at in range(200):
            one = onebyone.some_bands(chance, 4, 8, 600, 120, ordered=at % 5 > 0)
            self.check_at(one, PLAIN, (0, 1, 7, 50, 99, 100, 101, 350, 800, 2000, 10 ** 9))
            self.assertEqual(views(Rule(one)), views(Rule(one), plain()))

    def test_purses_of_few_people(self):
        """By a view that is told, where everybody has so much more, all purses are as even."""
        chance = random.Random(34)
        kinds = list(onebyone.purses(3, 3))
        told = 0
        for _ in range(60):
            one = onebyone.some_bands(chance, 3, 3, 12, 3, ordered=True)
            other = onebyone.some_bands(chance, 3, 3, 12, 3, ordered=True)
            found = views(Rule(one), Rule(other))
            if found is None:
                continue
            told += 1
            for view in (found[0], found[0] + 3 if found[1] is None else found[1]):
                bands, others = onebyone.lifted(one, view), onebyone.lifted(other, view)
                for each in kinds:
                    self.assertTrue(onebyone.as_even(onebyone.behind(bands, each), onebyone.behind(others, each)))
        self.assertGreater(told, 5)

    def test_the_rules_that_leave_more(self):
        """By the view s it evens more exactly if the rules do that leave s hundredths more."""
        chance = random.Random(35)
        for _ in range(200):
            one = onebyone.some_bands(chance, 8, 60, 10 ** 6, 1000, ordered=True)
            other = onebyone.some_bands(chance, 8, 60, 10 ** 6, 1000, ordered=True)
            found = views(Rule(one), Rule(other))
            least, greatest = found if found is not None else (0, -1)
            for view in (0, least, least - 1, least + 1, greatest or 7, (greatest or 0) + 1, 10 ** 20):
                if view >= 0:
                    more = Rule(onebyone.lifted(one, view)), Rule(onebyone.lifted(other, view))
                    within = least <= view and (greatest is None or view <= greatest)
                    self.assertIs(evens_more(*more), within)
                    self.assertEqual(least_lump(*more) == 0, within)


class Great(Checks):
    def test_greatest_values(self):
        top = 10 ** 32
        self.check(((0, 0, 999),), ((0, top, 1000),), (999 * top, None))
        self.check(((0, top, 1000),), ((0, 0, 999),), (0, 999 * top))
        self.check(((0, top, 2),), ((0, 0, 1),), (0, top))
        self.check(((0, top, 7),), ((0, 1, 4),), (0, (4 * top - 7) // 3))
        self.check(((0, 1, 4),), ((0, top, 7),), (-(-(4 * top - 7) // 3), None))
        self.check(((0, top, 1000),), ((0, top, 999),), None)
        self.check(((0, top - 1, 1000),), ((0, top, 1000),), None)
        self.check(((0, top, 1000),), ((0, top - 1, 1000),), (0, None))

    def test_views_beyond_10_to_the_40(self):
        # At the cliff one rule rises by 1 less than the other one, from far less, or by 1 more, from far more.
        half = 5 * 10 ** 31
        one, other = ((0, 0, 0), (FAR, half - 1, 0)), ((0, half, 0), (FAR, 2 * half, 0))
        self.check(one, other, (half * (half - 1), None))
        self.check(other, one, (0, half * (half - 1)))
        self.assertGreater(half * (half - 1), 10 ** 63)

    def test_a_least_and_a_greatest_view(self):
        value, beyond = 929 * 10 ** 28, 999 * 10 ** 28
        one = ((0, value, 7), (FAR, beyond, 999))
        for more in (1, 10 ** 20, 10 ** 27, 154 * 10 ** 25):
            other = ((0, 0, 1), (FAR, 1000 * 10 ** 28 + more, 1000))
            self.check(one, other, (999 * more, value // 6))
        self.check(one, ((0, 0, 1), (FAR, 1000 * 10 ** 28 + 155 * 10 ** 25, 1000)), None)

    def test_eight_bands(self):
        starts = [at * 10 ** 28 for at in range(7)] + [FAR]
        # Each band leaves 1 less of a start than the plain rule, and goes on as it does.
        fewer = tuple((start, 100 * start - at, 100) for at, start in enumerate(starts))
        self.check(fewer, None, None)
        # Each band rises by 1 less for each income than the one before it.
        flatter, left = (), 0
        for at, start in enumerate(starts):
            left += 0 if at == 0 else (start - starts[at - 1]) * (100 - at + 1)
            flatter += ((start, left, 100 - at),)
        self.check(flatter, None, (0, None))
        self.check(PLAIN, flatter, None)

    def test_eight_bands_one_of_which_asks_for_the_most(self):
        starts = [at * 10 ** 28 for at in range(7)] + [FAR]
        one = tuple((start, 99 * start, 99) for start in starts)
        for highest in range(9):
            # Where the plain rule and so many hundredths more are beside it, views from 99 times as many on do.
            more = [1000 if at >= highest else 500 for at in range(8)]
            other = tuple((start, 100 * start + lump, 100) for start, lump in zip(starts, more))
            self.check(one, other, (99 * more[-1], None))

    def test_great_rules_around_their_views(self):
        chance = random.Random(36)
        seen = {True: 0, False: 0}
        for at in range(300):
            one = onebyone.some_bands(chance, (8, 2)[at % 2], FAR, 10 ** 32, 1000, ordered=True)
            other = onebyone.some_bands(chance, (8, 2)[at % 2], FAR, 10 ** 32, 1000, ordered=True)
            found = views(Rule(one), Rule(other))
            incomes = sorted({near for start, _, _ in one + other for near in (start - 1, start, start + 1, start + 9)
                              if near >= 0})
            least, greatest = found if found is not None else (0, -1)
            for view in (0, least, least - 1, 10 ** 31, 10 ** 45, greatest or 0, (greatest or 0) + 1):
                if view < 0:
                    continue
                within = least <= view and (greatest is None or view <= greatest)
                bands, others = onebyone.lifted(one, view), onebyone.lifted(other, view)
                self.assertIs(any(onebyone.breaks(bands, others, income) for income in incomes), not within)
            seen[found is None] += 1
        self.assertTrue(all(many > 20 for many in seen.values()), seen)


class Differences(unittest.TestCase):
    def check(self, one, other, expected):
        rule, against = Rule(one), None if other is None else Rule(other)
        with self.subTest(one=one, other=other):
            answers = [evens_differences(rule, against), evens_differences(one=rule, other=against),
                       evens_differences(other=against, one=rule)]
            if other is None:
                answers += [evens_differences(rule), evens_differences(one=rule), evens_differences(rule, plain())]
            for found in answers:
                self.assertIs(found, expected)

    def test_examples_of_the_interface(self):
        self.check(DUES, None, True)
        self.check(((0, 0, 120),), None, False)

    def test_single_bands(self):
        for step, other, expected in ((0, 0, True), (0, 1, True), (1, 1, True), (2, 1, False), (1, 0, False),
                                      (100, 100, True), (101, 100, False), (1000, 1000, True), (999, 1000, True)):
            for value, beside in ((0, 0), (5, 0), (0, 5), (10 ** 32, 0), (0, 10 ** 32)):
                self.check(((0, value, step),), ((0, beside, other),), expected)

    def test_cliffs(self):
        self.check(HELP, None, True)
        self.check(((0, 0, 0), (5, 100, 100)), None, True)
        self.check(((0, 0, 0), (5, 101, 100)), None, False)
        self.check(((0, 5, 0), (5, 4, 0)), None, False)
        self.check(((0, 0, 0), (5, 0, 100)), None, True)
        self.check(((0, 0, 100), (3, 300, -100), (4, 400, 7)), None, True)
        self.check(((0, 0, 100), (3, 300, -1), (5, 400, 7)), None, False)

    def test_an_other_rule_that_turns_order(self):
        for other in (TURNED, ((0, 5, -1), (4, 9, 0)), ((0, 0, 100), (FAR, 10 ** 31 - 101, 100)),
                      ((0, 0, 0), (10 ** 28, 10 ** 32, -1000), (FAR, 10 ** 32, 0))):
            self.assertIs(keeps_order(Rule(other)), False)
            for one in (other, ((0, 0, 0),), DUES, PLAIN, TURNED):
                self.check(one, other, False)

    def test_small_rules_income_by_income(self):
        chance = random.Random(41)
        seen = {True: 0, False: 0}
        for at in range(900):
            one = onebyone.some_bands(chance, 3, 6, 9, 3, ordered=at % 3 > 0)
            other = onebyone.some_bands(chance, 3, 6, 30, 6, ordered=at % 4 > 0)
            expected = onebyone.evens_differences(one, other, SMALL_END)
            self.check(one, other, expected)
            seen[expected] += 1
        self.assertTrue(all(many > 100 for many in seen.values()), seen)

    def test_all_purses_of_few_people(self):
        chance = random.Random(42)
        # Where the order is turned, it takes many people to show it.
        purses = list(onebyone.purses(3, 4)) + [((low, 1), (low + 1, 30)) for low in range(4)]
        seen = {True: 0, False: 0}
        for at in range(120):
            one = onebyone.some_bands(chance, 2, 3, 6, 3, ordered=at % 3 > 0)
            other = onebyone.some_bands(chance, 2, 3, 12, 5, ordered=True)
            expected = all(self.nearer(one, other, kinds) for kinds in purses)
            self.assertIs(evens_differences(Rule(one), Rule(other)), expected, (one, other))
            seen[expected] += 1
        self.assertTrue(all(many > 20 for many in seen.values()), seen)

    def nearer(self, one, other, kinds):
        """Whether for each number of people the lowest are at most as far below the mean."""
        sums = onebyone.below_the_mean(onebyone.behind(one, kinds))
        return all(here <= there for here, there in zip(sums, onebyone.below_the_mean(onebyone.behind(other, kinds))))

    def test_great_rules(self):
        top = 100 * FAR
        self.check(((0, 0, 100), (FAR, top, 100)), None, True)
        self.check(((0, 0, 100), (FAR, top + 1, 100)), None, False)
        self.check(((0, 0, 100), (FAR, top - 100, 100)), None, True)
        self.check(((0, 0, 100), (FAR, top - 101, 100)), None, False)
        self.check(((0, 0, 100), (FAR, top, 101)), None, False)
        self.check(((0, 10 ** 32, 0), (FAR, 10 ** 32, 1000)), ((0, 0, 0), (FAR, 0, 1000)), True)
        eight = tuple((at * 10 ** 28, at * 10 ** 30, 100 - at) for at in range(8))
        self.check(eight, eight, True)
        self.check(eight, None, False)

    def test_what_evens_by_differences_evens_by_all_great_views(self):
        chance = random.Random(43)
        for _ in range(300):
            one = Rule(onebyone.some_bands(chance, 3, 6, 9, 3, ordered=True))
            other = Rule(onebyone.some_bands(chance, 3, 6, 30, 6, ordered=True))
            found = views(one, other)
            if found is not None and found[1] is None:
                self.assertIs(evens_differences(one, other), True)


class Errors(Refusing):
    ACTIONS = (views, evens_differences)

    def test_no_rule(self):
        rule = Rule(DUES)
        for value in (*ODD, *STRINGS, *INTEGERS, *TUPLES, Rule, DUES, str(rule)):
            for action in self.ACTIONS:
                with self.subTest(value=value, action=action):
                    for call in (lambda: action(value), lambda: action(value, rule), lambda: action(value, other=None),
                                 lambda: action(other=rule, one=value)):
                        self.refused(call, NotARule, given=value)

    def test_no_other_rule(self):
        rule = Rule(DUES)
        for value in (*ODD, *STRINGS, *INTEGERS, *TUPLES, Rule, DUES, str(rule)):
            if value is None:
                continue
            for action in self.ACTIONS:
                with self.subTest(value=value, action=action):
                    for call in (lambda: action(rule, value), lambda: action(other=value, one=rule)):
                        self.refused(call, NotARule, given=value)

    def test_the_order_of_errors(self):
        for action in self.ACTIONS:
            self.refused(lambda: action("one", "other"), NotARule, given="one")
            self.refused(lambda: action(other="other", one="one"), NotARule, given="one")
            self.refused(lambda: action(other=Rule(TURNED), one="one"), NotARule, given="one")

    def test_order_turned(self):
        cases = (
            (TURNED, 2), (((0, 5, -1), (4, 9, 0)), 0), (((0, 0, 100), (7, 700, -1), (9, 9, 0)), 7),
            (((0, 0, 100), (7, 700, 100), (9, 9, 0), (12, 5, 0)), 8),
            (((0, 0, 100), (FAR, 10 ** 31 - 101, 100)), FAR - 1),
            (((0, 0, 0), (10 ** 28, 10 ** 32, -1000), (FAR, 10 ** 32, 0)), 10 ** 28),
        )
        for bands, income in cases:
            rule = Rule(bands)
            for one in (Rule(DUES), Rule(TURNED), plain(), rule):
                with self.subTest(bands=bands):
                    self.refused(lambda: views(one, rule), OrderTurned, given=income)
                    self.refused(lambda: views(other=rule, one=one), OrderTurned, given=income)
                    self.assertIs(evens_differences(one, rule), False)
            self.assertEqual(rule.bands, bands)


if __name__ == "__main__":
    unittest.main()

import itertools
import random
import unittest

import onebyone
from evenedshares.errors import InvalidBands, NotARule, OrderTurned
from evenedshares.evening import breaking, contrary, evens_more, least_lump, windows
from evenedshares.rules import Rule, keeps_order, plain
from strange import INTEGERS, ODD, STRINGS, TUPLES

PLAIN = ((0, 0, 100),)
DUES = ((0, 0, 100), (1000, 100000, 60))
HELP = ((0, 50000, 20), (1000, 69980, 80))
TURNED = ((0, 5, 0), (3, 4, 1))
FAR = 10 ** 29
# Beyond all starts of the small rules nothing is different any more.
SMALL_END = 24


class Checks(unittest.TestCase):
    def check(self, one, other, first, stretches, lump):
        """All functions say this of these bands, passed by position and by name."""
        rule, against = Rule(one), None if other is None else Rule(other)
        expected = ((evens_more, first is None), (breaking, first), (windows, stretches), (least_lump, lump))
        with self.subTest(one=one, other=other):
            for action, answer in expected:
                answers = [action(rule, against), action(one=rule, other=against), action(other=against, one=rule)]
                if other is None:
                    answers += [action(rule), action(one=rule), action(rule, plain()), action(rule, Rule(PLAIN))]
                for found in answers:
                    self.assertEqual(found, answer, action)
                    self.assertIs(type(found), type(answer), action)
            self.shown(one, PLAIN if other is None else other, first, rule, against)

    def shown(self, one, other, first, rule, against):
        """There is a contrary exactly if the rule does not even more."""
        for found in (contrary(rule, against), contrary(one=rule, other=against)):
            self.assertEqual(found is None, first is None)
            self.assertEqual(found, contrary(Rule(one), Rule(other)))


class Few(Checks):
    def test_examples_of_the_interface(self):
        dues, help_ = Rule(DUES), Rule(HELP)
        self.assertEqual(
            [evens_more(dues), evens_more(help_), breaking(help_), windows(help_), least_lump(help_),
             evens_more(dues, dues)],
            [True, False, 1000, ((0, 1000),), 10020, True])
        self.assertEqual(
            [evens_more(help_, dues), windows(Rule(((0, 0, 100), (10, 500, 50)))), least_lump(Rule(TURNED)),
             evens_more(Rule(((0, 0, 0),)))],
            [False, ((0, 9), (10, None)), None, True])
        with self.assertRaises(OrderTurned) as caught:
            evens_more(dues, Rule(TURNED))
        self.assertEqual(caught.exception.given, 2)

    def test_with_the_plain_rule(self):
        self.check(PLAIN, None, None, ((0, None),), 0)
        self.check(DUES, None, None, ((0, None),), 0)
        self.check(HELP, None, 1000, ((0, 1000),), 10020)
        # The same part of each income, whatever part it is.
        for step in (0, 1, 120, 1000):
            self.check(((0, 0, step),), None, None, ((0, None),), 0)
        # The same for everybody, and a lump for everybody.
        self.check(((0, 10 ** 32, 0),), None, None, ((0, None),), 0)
        self.check(((0, 1, 100),), None, None, ((0, None),), 0)
        # An allowance breaks it everywhere: shares of those above rise.
        self.check(((0, 0, 0), (1, 0, 100)), None, 1, ((0, 1),), 100)
        self.check(((0, 0, 0), (5, 100, 100)), None, 4, ((0, 4),), 400)

    def test_cliffs(self):
        self.check(((0, 0, 100), (10, 500, 50)), None, 9, ((0, 9), (10, None)), None)
        self.check(((0, 0, 100), (10, 1001, 100)), None, 9, ((0, 9), (10, None)), 9)
        self.check(((0, 0, 100), (10, 1000, 100)), None, None, ((0, None),), 0)
        self.check(((0, 0, 100), (10, 999, 100)), None, 10, ((0, 10),), 1)
        self.check(((0, 0, 100), (10, 899, 0)), None, 9, ((0, 9), (10, None)), None)
        self.check(((0, 0, 100), (10, 900, 0)), None, None, ((0, None),), 0)

    def test_a_rule_that_turns_the_order(self):
        self.check(TURNED, None, 2, ((0, 2), (3, None)), None)
        self.check(((0, 5, -1), (4, 2, 0)), None, 0, ((3, None),), None)
        self.check(((0, 0, 100), (3, 300, -10), (6, 300, 0)), None, 3, ((0, 3), (5, None)), None)

    def test_a_window_is_never_a_single_income(self):
        # Between two neighbouring pairs that break it stands an income that is no window.
        self.check(((0, 9, 0), (1, 8, 0), (2, 7, 0)), None, 0, ((2, None),), None)
        self.check(((0, 9, -1), (5, 4, 0)), None, 0, ((5, None),), None)
        self.check(((0, 9, 0), (1, 8, 0), (3, 7, 0)), None, 0, ((1, 2), (3, None)), None)
        # None at all where all break it.
        self.check(((0, 0, 1),), ((0, 1, 1),), 0, (), 1)
        self.check(((0, 0, 1),), ((0, 5, 0),), 0, (), None)

    def test_the_last_window_has_no_end(self):
        self.check(((0, 500, 0), (5, 0, 100)), None, 4, ((0, 4),), None)
        self.check(((0, 500, 0), (5, 400, 80)), None, 4, ((0, 4), (5, None)), None)
        self.check(((0, 0, 0), (5, 600, 100)), None, 4, ((0, 4), (5, None)), 2400)

    def test_with_another_rule_that_is_level_somewhere(self):
        level = ((0, 0, 100), (5, 500, 0), (8, 500, 100))
        self.check(PLAIN, level, 5, ((0, 5), (8, None)), None)
        self.check(level, level, None, ((0, None),), 0)
        self.check(level, None, 8, ((0, 8),), 300)
        self.check(((0, 3, 0),), level, None, ((0, None),), 0)
        # Level by 0: who has nothing stays level.
        none = ((0, 0, 0), (5, 0, 100))
        self.check(none, none, None, ((0, None),), 0)
        self.check(none, ((0, 0, 0), (5, 0, 70)), None, ((0, None),), 0)
        self.check(((0, 1, 0), (5, 0, 100)), none, 4, ((0, 4), (5, None)), None)
        self.check(PLAIN, none, 0, ((5, None),), None)
        self.check(((0, 0, 0), (6, 0, 70)), none, 6, ((0, 6),), 70)

    def test_nothing_left_of_the_lower_one_by_the_other_rule(self):
        self.check(((0, 0, 1),), ((0, 0, 1000),), None, ((0, None),), 0)
        self.check(((0, 0, 1), (1, 1000, 0)), ((0, 0, 1000),), None, ((0, None),), 0)
        self.check(((0, 1, 0), (1, 0, 0)), ((0, 0, 1000),), 0, ((1, None),), None)

    def test_each_evens_more_than_the_other_one(self):
        half, whole = ((0, 0, 50), (7, 350, 25)), ((0, 0, 100), (7, 700, 50))
        self.check(half, whole, None, ((0, None),), 0)
        self.check(whole, half, None, ((0, None),), 0)

    def test_bands_for_one_income(self):
        self.check(((0, 0, 100), (5, 500, -100), (6, 600, 100)), None, None, ((0, None),), 0)
        self.check(PLAIN, ((0, 0, 100), (5, 500, -100), (6, 600, 100)), None, ((0, None),), 0)
        self.check(((0, 0, 100), (5, 501, -7), (6, 600, 100)), None, 4, ((0, 4), (5, None)), 4)
        self.check(((0, 0, 100), (5, 499, -7), (6, 600, 100)), None, 5, ((0, 5), (6, None)), 6)

    def test_starts_of_both_rules_next_to_one_another(self):
        one = ((0, 10, 5), (4, 30, 4), (6, 38, 3))
        other = ((0, 0, 5), (5, 26, 4), (7, 34, 4))
        self.check(one, other, onebyone.breaking(one, other, SMALL_END), onebyone.windows(one, other, SMALL_END), 0)
        self.check(other, one, onebyone.breaking(other, one, SMALL_END), onebyone.windows(other, one, SMALL_END), 25)


class Great(Checks):
    def test_cliffs_far_out(self):
        top = 100 * FAR
        self.check(((0, 0, 100), (FAR, top // 10, 100)), None, FAR - 1, ((0, FAR - 1),), None)
        self.check(((0, 0, 100), (FAR, top - 101, 1)), None, FAR - 1, ((0, FAR - 1), (FAR, None)), None)
        self.check(((0, 0, 100), (FAR, top - 100, 1)), None, None, ((0, None),), 0)
        self.check(((0, 0, 100), (FAR, top, 1)), None, None, ((0, None),), 0)
        self.check(((0, 5, 0), (FAR, 6, 0)), None, FAR - 1, ((0, FAR - 1), (FAR, None)), FAR - 6)
        self.check(((0, 5, 0), (FAR, 4, 0)), None, FAR - 1, ((0, FAR - 1), (FAR, None)), None)
        # It falls from the second income on.
        self.check(((0, 0, 1000), (1, 10 ** 32, -1000), (FAR, 10 ** 32, 0)), None, 1, ((0, 1), (FAR, None)), None)

    def test_differences_by_one_far_out(self):
        start = 10 ** 28
        same = ((0, 0, 100), (start, 10 ** 30, 60), (FAR, 10 ** 30 + 60 * 9 * 10 ** 28, 30))
        self.check(same, same, None, ((0, None),), 0)
        more = ((0, 0, 100), (start, 10 ** 30, 60), (FAR, 10 ** 30 + 60 * 9 * 10 ** 28 + 1, 30))
        self.check(more, same, FAR - 1, ((0, FAR - 1), (FAR, None)), -(-self.lacking(more, same, FAR - 1) // 60))
        less = ((0, 0, 100), (start, 10 ** 30, 60), (FAR, 10 ** 30 + 60 * 9 * 10 ** 28 - 1, 30))
        self.check(less, same, FAR, ((0, FAR),), 1)

    def lacking(self, one, other, income):
        """What a lump must be, times what the other rule leaves more of the next income."""
        low, high = onebyone.left(one, income), onebyone.left(one, income + 1)
        other_low, other_high = onebyone.left(other, income), onebyone.left(other, income + 1)
        return high * other_low - low * other_high

    def test_greatest_values(self):
        self.check(((0, 10 ** 32, 1000),), None, None, ((0, None),), 0)
        self.check(((0, 10 ** 32, 100),), ((0, 10 ** 32 - 1, 100),), None, ((0, None),), 0)
        self.check(((0, 10 ** 32 - 1, 100),), ((0, 10 ** 32, 100),), 0, (), 1)
        self.check(((0, 0, 1000),), ((0, 10 ** 32, 1),), 0, (), 10 ** 35)
        self.check(((0, 0, 999),), ((0, 10 ** 32, 7),), 0, (), -(-999 * 10 ** 32 // 7))
        self.check(((0, 0, 1),), ((0, 10 ** 32, 1000),), 0, (), 10 ** 29)
        lump = 10 ** 32 * (FAR - 1)
        self.check(((0, 0, 0), (FAR, 10 ** 32, 1000)), None, FAR - 1, ((0, FAR - 1), (FAR, None)), lump)
        self.check(((0, 0, 0), (FAR, 10 ** 32 - 1, 1000)), None, FAR - 1, ((0, FAR - 1),), lump - FAR + 1)

    def test_eight_bands(self):
        starts = [at * 10 ** 28 for at in range(8)]
        # At each start there is as much less of a lump as a single income more is worth, or a little more.
        level = tuple((start, 100 * start + 100 * (7 - at), 100) for at, start in enumerate(starts))
        self.check(level, None, None, ((0, None),), 0)
        falling = tuple((start, 100 * start + 101 * (7 - at), 100) for at, start in enumerate(starts))
        stretches = tuple((start, end - 1) for start, end in zip(starts, starts[1:])) + ((starts[-1], None),)
        self.check(falling, None, 10 ** 28 - 1, stretches, None)

    def test_incomes_around_each_change_and_between(self):
        chance = random.Random(11)
        broken = 0
        for _ in range(400):
            one = onebyone.some_bands(chance, 8, 10 ** 29, 10 ** 32, 1000)
            other = onebyone.some_bands(chance, 8, 10 ** 29, 10 ** 32, 1000, ordered=True)
            told = windows(Rule(one), Rule(other))
            first = breaking(Rule(one), Rule(other))
            self.assertIs(evens_more(Rule(one), Rule(other)), first is None)
            for income in self.looked_at(one, other, told, chance):
                within = any(start <= income and (end is None or income < end) for start, end in told)
                self.assertIs(onebyone.breaks(one, other, income), not within, (one, other, income))
                self.assertTrue(within or first <= income)
            if first is not None:
                self.assertTrue(onebyone.breaks(one, other, first))
                broken += 1
            self.apart(told)
        self.assertTrue(200 < broken)

    def looked_at(self, one, other, told, chance):
        starts = [start for start, value, step in one + other]
        ends = [end for window in told for end in window if end is not None]
        near = [income + by for income in starts + ends for by in (-2, -1, 0, 1, 2) if income + by >= 0]
        return near + [chance.randint(0, 10 ** 30) for _ in range(9)] + [chance.choice(near) // 2 for _ in range(9)]

    def apart(self, told):
        """No window is a single income, none touches another one, and only the last may have no end."""
        for at, (start, end) in enumerate(told):
            self.assertTrue(start >= 0 and (end is None or start < end))
            self.assertTrue(end is not None or at + 1 == len(told))
            self.assertTrue(at == 0 or told[at - 1][1] <= start)


class Small(unittest.TestCase):
    def rules(self, seed, ordered):
        chance = random.Random(seed)
        return [onebyone.some_bands(chance, 4, 8, 12, 3, ordered) for _ in range(700)]

    def test_income_by_income(self):
        told = 0
        for one, other in zip(self.rules(1, False), self.rules(2, True)):
            first = onebyone.breaking(one, other, SMALL_END)
            rule, against = Rule(one), Rule(other)
            self.assertEqual(breaking(rule, against), first, (one, other))
            self.assertIs(evens_more(rule, against), first is None)
            self.assertEqual(windows(rule, against), onebyone.windows(one, other, SMALL_END), (one, other))
            told += first is None
        self.assertTrue(20 < told < 650, told)

    def test_near_one_another(self):
        """Rules that differ in one number by a little even more as often as not."""
        chance = random.Random(3)
        told = 0
        for other in self.rules(4, True):
            at = chance.randrange(len(other))
            start, value, step = other[at]
            changed = (start, value + chance.randint(-1, 1), step + chance.randint(-1, 1))
            try:
                one = Rule(other[:at] + (changed,) + other[at + 1:])
            except InvalidBands:
                continue
            first = onebyone.breaking(one.bands, other, SMALL_END)
            self.assertEqual(breaking(one, Rule(other)), first, (one.bands, other))
            self.assertEqual(windows(one, Rule(other)), onebyone.windows(one.bands, other, SMALL_END))
            told += first is None
        self.assertTrue(100 < told < 600, told)

    def test_least_lump_is_enough_and_one_less_is_not(self):
        chance = random.Random(9)
        seen = {"none": 0, "nought": 0, "more": 0}
        for at, other in enumerate(self.rules(5, True)):
            one = onebyone.some_bands(chance, 3, 8, 12, 3, ordered=at % 4 > 0)
            lump = least_lump(Rule(one), Rule(other))
            if lump is None:
                # Great lumps are not enough either.
                for great in (0, 1, 1000, 10 ** 9):
                    self.assertIsNotNone(onebyone.breaking(onebyone.lifted(one, great), other, SMALL_END))
                seen["none"] += 1
                continue
            self.assertIs(type(lump), int)
            self.assertIsNone(onebyone.breaking(onebyone.lifted(one, lump), other, SMALL_END), (one, other))
            self.assertIs(evens_more(Rule(onebyone.lifted(one, lump)), Rule(other)), True)
            self.assertEqual(least_lump(Rule(onebyone.lifted(one, lump)), Rule(other)), 0)
            if lump > 0:
                less = onebyone.lifted(one, lump - 1)
                self.assertIsNotNone(onebyone.breaking(less, other, SMALL_END), (one, other))
                self.assertEqual(least_lump(Rule(less), Rule(other)), 1)
            seen["more" if lump else "nought"] += 1
        self.assertTrue(all(many > 30 for many in seen.values()), seen)

    def test_all_purses_of_few_people(self):
        """A rule that evens more does so for each of them; purses of two people show most of those that do not."""
        kinds = list(onebyone.purses(3, 5)) + [((1, 4), (3, 1)), ((0, 1), (2, 3), (5, 1)), ((2, 1), (3, 6))]
        for one, other in zip(self.rules(6, True)[:120], self.rules(7, True)[:120]):
            if evens_more(Rule(one), Rule(other)):
                for each in kinds:
                    self.assertTrue(self.evens(one, other, each), (one, other, each))
            else:
                first = breaking(Rule(one), Rule(other))
                # Both keep order, so that one of each of two neighbours is enough.
                self.assertFalse(self.evens(one, other, ((first, 1), (first + 1, 1))), (one, other))

    def evens(self, one, other, kinds):
        return onebyone.as_even(onebyone.behind(one, kinds), onebyone.behind(other, kinds))


class Refusing(unittest.TestCase):
    ACTIONS = (evens_more, breaking, windows, contrary, least_lump)

    def refused(self, call, error, given):
        with self.assertRaises(error) as caught:
            call()
        self.assertIs(type(caught.exception), error)
        self.assertEqual(caught.exception.given, given)
        return caught.exception.given

    def test_no_rule(self):
        rule = Rule(DUES)
        for value in (*ODD, *STRINGS, *INTEGERS, *TUPLES, Rule, DUES, str(rule)):
            for action in self.ACTIONS:
                with self.subTest(value=value, action=action):
                    for call in (lambda: action(value), lambda: action(value, rule), lambda: action(value, other=None),
                                 lambda: action(other=rule, one=value)):
                        with self.assertRaises(NotARule) as caught:
                            call()
                        self.assertIs(caught.exception.given, value)

    def test_no_other_rule(self):
        rule = Rule(DUES)
        for value in (*ODD, *STRINGS, *INTEGERS, *TUPLES, Rule, DUES, str(rule)):
            if value is None:
                continue
            for action in self.ACTIONS:
                with self.subTest(value=value, action=action):
                    for call in (lambda: action(rule, value), lambda: action(rule, other=value),
                                 lambda: action(other=value, one=rule)):
                        with self.assertRaises(NotARule) as caught:
                            call()
                        self.assertIs(caught.exception.given, value)

    def test_the_order_of_errors(self):
        for action in self.ACTIONS:
            self.refused(lambda: action("one", "other"), NotARule, "one")
            self.refused(lambda: action(other="other", one="one"), NotARule, "one")
            self.refused(lambda: action(None), NotARule, None)
            self.refused(lambda: action("one", Rule(TURNED)), NotARule, "one")
            self.refused(lambda: action(other=Rule(TURNED), one=None), NotARule, None)

    def test_an_other_rule_that_turns_the_order(self):
        cases = (
            (TURNED, 2),
            (((0, 5, -1), (4, 9, 0)), 0),
            (((0, 0, 100), (7, 700, -1), (9, 9, 0)), 7),
            (((0, 0, 100), (7, 700, 100), (9, 9, 0), (12, 5, 0)), 8),
            (((0, 0, 100), (7, 700, -5), (8, 699, 0)), 7),
            (((0, 0, 100), (10 ** 29, 10 ** 31 - 101, 100)), 10 ** 29 - 1),
            (((0, 0, 0), (10 ** 28, 10 ** 32, -1000), (10 ** 29, 10 ** 32, 0)), 10 ** 28),
        )
        for bands, income in cases:
            rule = Rule(bands)
            self.assertIs(keeps_order(rule), False)
            for action, one in itertools.product(self.ACTIONS, (Rule(DUES), Rule(TURNED), plain(), rule)):
                with self.subTest(bands=bands, action=action):
                    given = self.refused(lambda: action(one, rule), OrderTurned, income)
                    self.assertIs(type(given), int)
                    self.refused(lambda: action(other=rule, one=one), OrderTurned, income)
            self.assertEqual(rule.bands, bands)


if __name__ == "__main__":
    unittest.main()

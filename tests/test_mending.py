import itertools
import random
import unittest

import onebyone
from evenedshares.errors import InvalidChanges, NotARule, OrderTurned
from evenedshares.evening import evens_more
from evenedshares.mending import mending
from evenedshares.rules import Rule, plain
from refusing import Refusing
from strange import INTEGERS, ODD, STRINGS, TUPLES

PLAIN = ((0, 0, 100),)
DUES = ((0, 0, 100), (1000, 100000, 60))
HELP = ((0, 50000, 20), (1000, 69980, 80))
TURNED = ((0, 5, 0), (3, 4, 1))
EIGHT = tuple((10 * at, 1000 * at, 100) for at in range(8))
FAR = 10 ** 29
SMALL_END = 12


def changed(bands, changes):
    """The bands behind these changes."""
    told = {index: (value, step) for index, value, step in changes}
    return tuple((start, *told.get(index, (value, step))) for index, (start, value, step) in enumerate(bands))


def is_rule(bands):
    """Whether nothing below 0 is left: the last band is looked at a good way, and must not fall."""
    return bands[-1][2] >= 0 and all(onebyone.left(bands, income) >= 0 for income in range(SMALL_END))


def least_sets(bands, changes, others, end=SMALL_END):
    """All least sets, each set of changes looked at by itself, income by income."""
    does = {}
    for size in range(len(changes) + 1):
        for chosen in itertools.combinations(range(len(changes)), size):
            behind = changed(bands, [changes[at] for at in chosen])
            does[chosen] = is_rule(behind) and onebyone.breaking(behind, others, end) is None
    return tuple(chosen for chosen in does if does[chosen] and not any(does[part] for part in proper_parts(chosen)))


def proper_parts(chosen):
    return [part for size in range(len(chosen)) for part in itertools.combinations(chosen, size)]


class Checks(unittest.TestCase):
    def check(self, one, changes, expected, other=None):
        rule, against = Rule(one), None if other is None else Rule(other)
        with self.subTest(one=one, changes=changes, other=other):
            answers = [mending(rule, changes, against), mending(one=rule, changes=changes, other=against),
                       mending(other=against, changes=changes, one=rule)]
            if other is None:
                answers += [mending(rule, changes), mending(changes=changes, one=rule), mending(rule, changes, plain())]
            for found in answers:
                self.assertEqual(found, expected)
                self.assertEqual({type(found), *[type(each) for each in found]}, {tuple})
            self.assertEqual(rule.bands, one)


class Few(Checks):
    def test_examples_of_the_interface(self):
        self.check(HELP, ((1, 70000, 40), (0, 60000, 20)), ((0,),))
        self.check(HELP, ((0, 60020, 20), (1, 80000, 80)), ((0, 1),))
        self.check(DUES, (), ((),))

    def test_no_changes_at_all(self):
        self.check(HELP, (), ())
        self.check(HELP, (), ((),), HELP)
        self.check(DUES, (), ((),), DUES)
        self.check(DUES, (), (), HELP)

    def test_the_rule_does_already(self):
        self.check(DUES, ((0, 0, 100), (1, 7, 3)), ((),))
        self.check(DUES, ((1, 0, -1), (0, 0, 0)), ((),))

    def test_no_set_does(self):
        self.check(HELP, ((0, 0, 20), (1, 0, 80)), ())
        # As if the band were not changed.
        self.check(HELP, ((1, 69980, 80),), ())

    def test_several_least_sets(self):
        # Three levels that must become one: two bands go to the level of the third one.
        saw = ((0, 100, 0), (5, 600, 0), (10, 1200, 0))
        self.check(saw, ((0, 1200, 0), (1, 1200, 0), (2, 600, 0)), ((0, 1),))
        self.check(saw, ((0, 600, 0), (1, 100, 0), (2, 100, 0)), ((1, 2),))
        self.check(saw, ((2, 600, 0), (0, 600, 0), (1, 100, 0)), ((0, 1),))
        # One change alone does, and two others that are nothing without one another.
        self.check(((0, 0, 0), (5, 700, 0), (9, 700, 0)), ((0, 700, 0), (1, 0, 0), (2, 0, 0)), ((0,), (1, 2)))

    def test_sets_of_fewer_changes_come_first(self):
        one = ((0, 100, 0), (4, 600, 0), (8, 600, 0), (12, 600, 0))
        changes = ((1, 100, 0), (2, 100, 0), (3, 100, 0), (0, 600, 0))
        self.check(one, changes, ((3,), (0, 1, 2)))

    def test_sets_of_as_many_changes_stand_in_order(self):
        # Beside a rule for which the first band alone may leave less.
        one, other = ((0, 0, 1), (3, 3, 1), (6, 6, 1)), ((0, 0, 1), (3, 3, 1), (6, 6, 1), (9, 9, 0))
        changes = ((2, 8, 0), (1, 3, 0), (0, 3, 0))
        self.check(one, changes, least_sets(one, changes, other), other)
        cliff = ((0, 0, 0), (5, 300, 0), (8, 300, 0))
        self.check(cliff, ((2, 0, 0), (1, 0, 0), (0, 300, 0)), ((2,), (0, 1)))
        self.check(cliff, ((2, 9, 0), (0, 300, 0), (1, 9, 0)), ((1,),))

    def test_a_set_behind_which_less_than_0_is_left_does_not_count(self):
        one = ((0, 10, 0), (5, 1000, 0))
        # A band without end that falls, whatever else is changed.
        self.check(one, ((1, 10, -1),), ())
        self.check(one, ((1, 10, -1), (0, 1000, 0)), ((1,),))
        # A band that would fall below 0 before the next one begins, one that falls to 0 and turns the order, and one
        # whose step plays no part.
        self.check(one, ((0, 1000, -251), (1, 10, 0)), ((1,),))
        self.check(one, ((0, 1000, -250), (1, 10, 0)), ((1,),))
        self.check(((0, 10, 0), (1, 20, 0), (2, 1000, 0)), ((1, 1000, -1000),), ((0,),))
        # It would even all if below 0 were nothing.
        self.check(((0, 10, 0), (5, 1000, 0)), ((1, 0, -1), (0, 0, 0)), ())

    def test_all_of_six_changes(self):
        # Each of six cliffs must go.
        cliffs = tuple((10 * at, 100 + 5000 * at, 0) for at in range(7))
        changes = tuple((at, 100, 0) for at in range(1, 7))
        self.check(cliffs, changes, ((0, 1, 2, 3, 4, 5),))
        self.check(cliffs, changes[:5], ())
        self.check(cliffs, tuple(reversed(changes)), ((0, 1, 2, 3, 4, 5),))
        # All of eight bands, of which six are changed.
        same = tuple((10 * at, 100, 0) for at in range(8))
        self.check(same, tuple((at, 7 * at, 1) for at in range(2, 8)), ((),))

    def test_six_changes_any_of_which_does(self):
        """Each of them lowers its own band and those above; beside the other rule one of them is enough."""
        other = ((0, 0, 1),)
        one = tuple((2 * at, 2 * at, 1) for at in range(7)) + ((14, 15, 1),)
        changes = ((7, 14, 1), (6, 13, 1), (5, 11, 1), (4, 9, 1), (3, 7, 1), (2, 5, 1))
        self.check(one, changes, least_sets(one, changes, other, 30), other)
        self.assertIn((0,), mending(Rule(one), changes, Rule(other)))

    def test_the_order_of_changes_plays_no_part_but_for_indexes(self):
        chance = random.Random(61)
        for _ in range(50):
            one = onebyone.some_bands(chance, 4, 6, 9, 2)
            changes = [(index, chance.randint(0, 9), chance.randint(0, 2)) for index in range(len(one))]
            first = mending(Rule(one), tuple(changes))
            back = mending(Rule(one), tuple(reversed(changes)))
            turned = [tuple(sorted(len(changes) - 1 - at for at in each)) for each in back]
            self.assertEqual(list(first), sorted(turned, key=lambda each: (len(each), each)))


class Small(Checks):
    def test_all_sets_income_by_income(self):
        chance = random.Random(62)
        seen = {}
        for at in range(700):
            one, changes, other = self.spoiled(chance)
            expected = least_sets(one, changes, PLAIN if other is None else other)
            self.check(one, changes, expected, other)
            kind = "none" if expected == () else "already" if expected == ((),) else len(expected)
            seen[kind] = seen.get(kind, 0) + 1
            seen["two"] = seen.get("two", 0) + any(len(each) > 1 for each in expected)
        self.assertTrue(all(seen.get(kind, 0) > 20 for kind in ("none", "already", 1, "two")), seen)

    def spoiled(self, chance):
        """A rule that evened more until some of its bands were spoiled, and changes that may mend them."""
        while True:
            other = onebyone.some_bands(chance, 5, 8, 4, 2, ordered=True)
            good = tuple((start, value + 3, step) for start, value, step in other)
            worse = [(index, chance.randint(0, 12), chance.randint(0, 3)) for index in range(len(good))]
            one = changed(good, [change for change in worse if chance.random() < 0.5])
            indexes = chance.sample(range(len(good)), len(good))
            changes = [(index, *good[index][1:]) for index in indexes]
            changes = [change if chance.random() < 0.7 else (change[0], chance.randint(0, 8), chance.randint(-1, 2))
                       for change in changes]
            if is_rule(one):
                return one, tuple(changes), None if chance.random() < 0.1 else other

    def test_changes_behind_which_less_than_0_is_left(self):
        chance = random.Random(63)
        found = 0
        for _ in range(700):
            one, changes, other = self.spoiled(chance)
            changes = tuple((index, value, -3) if chance.random() < 0.3 else (index, value, step)
                            for index, value, step in changes)
            expected = least_sets(one, changes, PLAIN if other is None else other)
            self.check(one, changes, expected, other)
            below = [not is_rule(changed(one, [change])) for change in changes]
            self.assertFalse(any(below[at] for each in expected for at in each))
            found += any(below) and expected not in ((), ((),))
        self.assertGreater(found, 10)

    def test_each_set_does_and_each_part_does_not(self):
        chance = random.Random(64)
        for _ in range(100):
            one = onebyone.some_bands(chance, 8, FAR, 10 ** 32, 1000, ordered=True)
            other = onebyone.some_bands(chance, 2, FAR, 10 ** 32, 1000, ordered=True)
            indexes = chance.sample(range(len(one)), min(len(one), 6))
            changes = tuple((index, 10 ** 31, chance.choice((0, 0, 1))) for index in indexes)
            found = mending(Rule(one), changes, Rule(other))
            self.assertEqual(list(found), sorted(set(found), key=lambda each: (len(each), each)))
            for each in found:
                self.assertEqual(each, tuple(sorted(set(each))))
                self.assertTrue(evens_more(Rule(changed(one, [changes[at] for at in each])), Rule(other)))
                for gone in each:
                    part = changed(one, [changes[at] for at in each if at != gone])
                    self.assertFalse(evens_more(Rule(part), Rule(other)))


class Wrong(Refusing):
    def wrong(self, changes, index, one=HELP):
        rule = Rule(one)
        with self.subTest(changes=changes):
            for call in (lambda: mending(rule, changes), lambda: mending(changes=changes, one=rule),
                         lambda: mending(rule, changes, None), lambda: mending(rule, changes, plain())):
                self.refused(call, InvalidChanges, index=index)
            self.assertEqual(rule.bands, one)

    def test_no_tuple(self):
        for value in (*ODD, *STRINGS, *INTEGERS, [(0, 0, 0)], list(HELP), Rule(HELP)):
            self.wrong(value, None)

    def test_elements_that_are_no_triples(self):
        for value in (*ODD, *STRINGS, *INTEGERS, [0, 0, 0], [1, 0, 0], (), (0,), (0, 0), (0, 0, 0, 0), ((0, 0, 0),)):
            self.wrong((value,), 0)
            self.wrong(((1, 0, 0), value), 1)

    def test_numbers_that_are_no_integers(self):
        for value in (*ODD, *STRINGS, *TUPLES):
            self.wrong(((value, 0, 0),), 0)
            self.wrong(((0, value, 0),), 0)
            self.wrong(((0, 0, value),), 0)
            self.wrong(((0, 0, 0), (1, 0, value)), 1)

    def test_true_and_false_are_no_numbers(self):
        for value in (True, False):
            for change in ((value, 5, 5), (1, value, 5), (1, 5, value)):
                self.wrong((change,), 0)
                self.wrong(((0, 0, 0), change), 1)

    def test_numbers_one_beyond_their_bounds(self):
        for change in ((-1, 0, 0), (2, 0, 0), (10 ** 79, 0, 0), (1, -1, 0), (1, 10 ** 32 + 1, 0), (1, 0, 1001),
                       (1, 0, -1001), (0, 10 ** 79, 0)):
            self.wrong((change,), 0)
        self.wrong(((0, 0, 0), (2, 0, 0)), 1)
        self.wrong(((8, 0, 0),), 0, EIGHT)
        self.wrong(((1, 0, 0),), 0, PLAIN)

    def test_numbers_at_their_bounds(self):
        mending(Rule(EIGHT), ((0, 0, -1000), (7, 10 ** 32, 1000)))
        mending(Rule(PLAIN), ((0, 0, 1000),))

    def test_the_same_band_a_second_time(self):
        self.wrong(((0, 0, 0), (0, 0, 0)), 1)
        self.wrong(((0, 0, 0), (1, 0, 0), (0, 7, 0)), 2)
        self.wrong(((0, 0, 0), (1, 0, 0), (1, 7, 0), (0, 7, 0)), 2)

    def test_the_seventh(self):
        seven = tuple((index, 0, 0) for index in range(7))
        self.wrong(seven, 6, EIGHT)
        self.wrong((*seven[:6], None), 6, EIGHT)
        self.wrong((*seven, (7, 0, 0)), 6, EIGHT)
        mending(Rule(EIGHT), seven[:6])

    def test_the_first_of_several(self):
        self.wrong(((0, 0, 0), None, (0, 0, 0), ()), 1)
        self.wrong(((0, 0, 0), (0, 0, 0), None), 1)
        self.wrong(((5, 0, 0), (0, 0, 0), (0, 0, 0)), 0)
        self.wrong((*[(index, 0, 0) for index in range(5)], (0, 0, 0), (6, 0, 0), (7, 0, 0)), 5, EIGHT)


class Errors(Refusing):
    def test_no_rule(self):
        for value in (*ODD, *STRINGS, *INTEGERS, *TUPLES, Rule, HELP):
            with self.subTest(value=value):
                for call in (lambda: mending(value, ()), lambda: mending(changes=None, one=value),
                             lambda: mending(value, (), "other")):
                    self.refused(call, NotARule, given=value)

    def test_no_other_rule(self):
        for value in (*ODD, *STRINGS, *INTEGERS, *TUPLES, Rule, HELP):
            if value is None:
                continue
            with self.subTest(value=value):
                for call in (lambda: mending(Rule(HELP), (), value),
                             lambda: mending(other=value, changes=((0, 0, 0),), one=Rule(DUES))):
                    self.refused(call, NotARule, given=value)

    def test_the_order_of_errors(self):
        turned = Rule(TURNED)
        self.refused(lambda: mending("one", None, "other"), NotARule, given="one")
        self.refused(lambda: mending(other=turned, changes=None, one="one"), NotARule, given="one")
        self.refused(lambda: mending(Rule(HELP), [], "other"), InvalidChanges, index=None)
        self.refused(lambda: mending(other="other", changes=((2, 0, 0),), one=Rule(HELP)), InvalidChanges, index=0)
        self.refused(lambda: mending(Rule(HELP), ((0, 0, 0), ()), turned), InvalidChanges, index=1)
        self.refused(lambda: mending(Rule(HELP), (), turned), OrderTurned, given=2)
        self.refused(lambda: mending(other=turned, changes=((0, 0, 0),), one=turned), OrderTurned, given=2)
        far = Rule(((0, 0, 100), (FAR, 10 ** 31 - 101, 100)))
        self.refused(lambda: mending(Rule(HELP), (), far), OrderTurned, given=FAR - 1)


if __name__ == "__main__":
    unittest.main()

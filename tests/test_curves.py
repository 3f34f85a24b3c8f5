import itertools
import random
import unittest
from fractions import Fraction

import onebyone
from evenedshares.curves import crossing, gifts, held, is_as_even, order
from evenedshares.errors import NotAPurse
from evenedshares.purses import Purse
from strange import INTEGERS, ODD, STRINGS, TUPLES

PAIR = Purse(((1, 1), (3, 1)))
LEVEL = Purse(((2, 2),))
NOTHING = Purse(((0, 7),))
# The lowest quarter has more in the first, the lowest half in the second.
LOW = Purse(((2, 1), (3, 2), (12, 1)))
HIGH = Purse(((1, 1), (5, 2), (9, 1)))
BACK = {"same": "same", "more": "less", "less": "more", "neither": "neither"}


def times(purse, amounts=1, counts=1):
    """The purse with so many times the amounts and so many times the people."""
    return Purse(tuple((amount * amounts, count * counts) for amount, count in purse.kinds))


class Order(unittest.TestCase):
    def check(self, first, second, word):
        """Everything that tells which purse is more even agrees with this word, both ways round."""
        for one, other, said in ((first, second, word), (second, first, BACK[word])):
            with self.subTest(one=str(one), other=str(other)):
                self.assertEqual(order(one, other), said)
                self.assertEqual(order(second=other, first=one), said)
                even = said in ("same", "more")
                self.assertIs(is_as_even(one, other), even)
                self.assertIs(is_as_even(second=other, first=one), even)
                self.crosses(one, other, even)

    def crosses(self, first, second, even):
        """There is a crossing exactly if the first is not as even, and `held` shows it."""
        found = crossing(first, second)
        self.assertEqual(found, crossing(second=second, first=first))
        if even:
            self.assertIsNone(found)
            return
        self.assertIs(type(found), tuple)
        part, whole = found
        self.assertEqual((type(part), type(whole)), (int, int))
        self.assertTrue(0 <= part <= whole and whole >= 1)
        self.assertLess(Fraction(*held(first, part, whole)), Fraction(*held(second, part, whole)))

    def test_examples_of_the_interface(self):
        self.assertIs(is_as_even(LEVEL, PAIR), True)
        self.assertIsNone(crossing(Purse(((5, 2),)), PAIR))
        self.assertEqual(order(Purse(((1, 2), (4, 2))), Purse(((1, 10 ** 30), (4, 10 ** 30)))), "same")

    def test_the_four_words(self):
        self.check(PAIR, PAIR, "same")
        self.check(LEVEL, PAIR, "more")
        self.check(PAIR, LEVEL, "less")
        self.check(LOW, HIGH, "neither")

    def test_shares_alone_count(self):
        self.check(PAIR, times(PAIR, amounts=7), "same")
        self.check(PAIR, times(PAIR, counts=5), "same")
        self.check(PAIR, times(PAIR, amounts=10 ** 35, counts=10 ** 72), "same")
        self.check(LOW, times(HIGH, amounts=3, counts=4), "neither")
        self.check(times(LEVEL, amounts=9), times(PAIR, counts=11), "more")

    def test_other_numbers_of_people(self):
        # Two thirds of the people hold a third in both.
        self.check(Purse(((1, 2), (4, 1))), Purse(((1, 4), (3, 1), (5, 1))), "more")
        self.check(Purse(((1, 1), (2, 1))), Purse(((1, 2), (2, 1))), "neither")
        self.check(Purse(((0, 1), (1, 1))), Purse(((0, 1), (1, 2))), "less")
        self.check(Purse(((0, 2), (1, 1))), Purse(((0, 3), (1, 2))), "less")
        self.check(Purse(((1, 10 ** 72), (2, 1))), Purse(((1, 10 ** 72 - 1), (2, 1))), "neither")

    def test_a_total_of_0_is_level(self):
        self.check(NOTHING, NOTHING, "same")
        self.check(NOTHING, Purse(((0, 10 ** 72),)), "same")
        self.check(NOTHING, Purse(((5, 3),)), "same")
        self.check(NOTHING, PAIR, "more")
        self.check(NOTHING, Purse(((0, 1), (1, 1))), "more")

    def test_level_purses(self):
        self.check(Purse(((1, 1),)), Purse(((10 ** 36, 10 ** 72),)), "same")
        self.check(Purse(((1, 1),)), LOW, "more")

    def test_differences_by_one(self):
        many = 10 ** 72
        self.check(Purse(((10 ** 36 - 1, many), (10 ** 36, many))), Purse(((10 ** 36 - 2, many), (10 ** 36, many))),
                   "more")
        self.check(Purse(((10 ** 36 - 1, many), (10 ** 36, many))), Purse(((10 ** 36, many),)), "less")
        self.check(Purse(((0, many - 1), (1, 1))), Purse(((0, many - 2), (1, 1))), "less")

    def test_thirty_kinds(self):
        first = Purse(tuple((at + 1, 10 ** 72) for at in range(30)))
        second = Purse(tuple((at, 10 ** 71) for at in range(30)))
        self.check(first, second, "more")
        steps = tuple((8 * at + 8, 10 ** 72) for at in range(30))
        middle = steps[:14] + ((123, 10 ** 72), (125, 10 ** 72)) + steps[16:]
        self.check(first, Purse(steps), "same")
        # Those in the middle are nearer to each other.
        self.check(first, Purse(middle), "less")
        # And the lowest and the highest are further apart.
        self.check(first, Purse(((7, 10 ** 72),) + middle[1:29] + ((241, 10 ** 72),)), "neither")

    def test_a_crossing_between_the_ends_of_the_kinds_of_the_second(self):
        first, second = Purse(((1, 1), (9, 1))), Purse(((0, 1), (3, 1), (7, 1)))
        for part in (1, 2):
            self.assertGreater(Fraction(*held(first, part, 3)), Fraction(*held(second, part, 3)))
        self.check(first, second, "neither")

    def test_small_purses_person_by_person(self):
        kinds = list(onebyone.purses(3, 3))
        for one, other in itertools.combinations_with_replacement(kinds, 2):
            first, second = Purse(one), Purse(other)
            even, back = onebyone.as_even(one, other), onebyone.as_even(other, one)
            word = {(True, True): "same", (True, False): "more", (False, True): "less"}.get((even, back), "neither")
            self.check(first, second, word)

    def test_more_people_person_by_person(self):
        chance = random.Random(5)
        kinds = list(onebyone.purses(6, 5))
        words = set()
        for one, other in zip(chance.sample(kinds, 250), chance.sample(kinds, 250)):
            even, back = onebyone.as_even(one, other), onebyone.as_even(other, one)
            word = {(True, True): "same", (True, False): "more", (False, True): "less"}.get((even, back), "neither")
            self.check(Purse(one), Purse(other), word)
            words.add(word)
        self.assertGreaterEqual(words, {"more", "less", "neither"})


class Gifts(unittest.TestCase):
    def check(self, first, second, least):
        for found in (gifts(first, second), gifts(second=second, first=first)):
            self.assertEqual(found, least)
            self.assertIs(type(found), type(least))

    def test_examples_of_the_interface(self):
        self.check(PAIR, LEVEL, 1)
        self.check(LEVEL, PAIR, None)
        self.check(Purse(((0, 2), (3, 1))), Purse(((1, 3),)), 2)

    def test_nothing_to_give(self):
        for purse in (PAIR, LEVEL, NOTHING, LOW):
            self.check(purse, Purse(purse.kinds), 0)

    def test_other_people_or_another_total(self):
        self.check(PAIR, times(PAIR, counts=2), None)
        self.check(PAIR, times(PAIR, amounts=2), None)
        self.check(PAIR, times(LEVEL, counts=2), None)
        self.check(PAIR, times(LEVEL, amounts=2), None)
        # As much in all, but one person more or less.
        self.check(Purse(((1, 2), (4, 1))), Purse(((2, 3),)), 2)
        self.check(Purse(((1, 2), (4, 1))), Purse(((3, 2),)), None)
        self.check(Purse(((0, 3),)), Purse(((0, 4),)), None)
        # As many people, but one more or less in all.
        self.check(Purse(((1, 2), (5, 1))), Purse(((2, 3),)), None)
        self.check(Purse(((1, 2), (3, 1))), Purse(((2, 3),)), None)

    def test_second_not_as_even(self):
        self.check(LEVEL, PAIR, None)
        self.check(LOW, HIGH, None)
        self.check(HIGH, LOW, None)

    def test_kinds_over_one_another(self):
        self.check(Purse(((0, 3), (10, 2))), Purse(((1, 1), (4, 3), (7, 1))), 9)
        self.check(Purse(((1, 1), (4, 3), (7, 1))), Purse(((0, 3), (10, 2))), None)
        self.check(Purse(((0, 1), (4, 1), (8, 1))), Purse(((2, 1), (4, 1), (6, 1))), 2)

    def test_great_purses(self):
        many = 10 ** 72
        self.check(Purse(((0, many), (10 ** 36, many))), Purse(((5 * 10 ** 35, many),)), None)
        self.check(Purse(((0, many // 2), (10 ** 36, many // 2))), Purse(((5 * 10 ** 35, many),)), 25 * 10 ** 106)
        self.check(Purse(((10 ** 36 - 2, many), (10 ** 36, many))),
                   Purse(((10 ** 36 - 2, many - 1), (10 ** 36 - 1, 2), (10 ** 36, many - 1))), 1)
        steps = tuple((at, many // 2) for at in range(30))
        self.check(Purse(steps), Purse(((1, many),) + steps[2:28] + ((28, many),)), many // 2)

    def test_small_purses_person_by_person(self):
        groups = {}
        for kinds in onebyone.purses(4, 5):
            purse = Purse(kinds)
            groups.setdefault((purse.people, purse.total), []).append(kinds)
        looked = {None: 0, False: 0, True: 0}
        for group in groups.values():
            for one, other in itertools.product(group, repeat=2):
                least = onebyone.gifts(one, other)
                self.check(Purse(one), Purse(other), least)
                looked[None if least is None else least > 0] += 1
        self.assertTrue(all(many > 50 for many in looked.values()), looked)

    def test_other_groups_person_by_person(self):
        kinds = list(onebyone.purses(3, 2))
        for one, other in itertools.product(kinds, repeat=2):
            self.check(Purse(one), Purse(other), onebyone.gifts(one, other))


class Refusing(unittest.TestCase):
    def refused(self, call, given):
        with self.assertRaises(NotAPurse) as caught:
            call()
        self.assertIs(type(caught.exception), NotAPurse)
        self.assertIs(caught.exception.given, given)

    def test_no_purse(self):
        for action in (is_as_even, order, crossing, gifts):
            for value in (*ODD, *STRINGS, *INTEGERS, *TUPLES, Purse, PAIR.kinds, str(PAIR)):
                with self.subTest(action=action, value=value):
                    self.refused(lambda: action(value, PAIR), value)
                    self.refused(lambda: action(PAIR, value), value)
                    self.refused(lambda: action(second=PAIR, first=value), value)
                    self.refused(lambda: action(second=value, first=PAIR), value)

    def test_the_first_purse_is_looked_at_first(self):
        for action in (is_as_even, order, crossing, gifts):
            self.refused(lambda: action("first", "second"), "first")
            self.refused(lambda: action(second="second", first="first"), "first")
        self.assertEqual(PAIR.kinds, ((1, 1), (3, 1)))


if __name__ == "__main__":
    unittest.main()

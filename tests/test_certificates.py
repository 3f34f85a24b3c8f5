import random
import unittest

import judge
import onebyone
from evenedshares.certificates import certify_evening, certify_gifts, certify_order
from evenedshares.checker import accepts
from evenedshares.curves import gifts, held, is_as_even
from evenedshares.errors import NotAPurse, NotARule, OrderTurned
from evenedshares.evening import contrary, evens_more
from evenedshares.purses import Purse, behind
from evenedshares.rules import Rule, plain
from refusing import Refusing
from strange import INTEGERS, ODD, STRINGS, TUPLES

PLAIN = "from 0 value 0 step 100"
DUES = Rule(((0, 0, 100), (1000, 100000, 60)))
HELP = Rule(((0, 50000, 20), (1000, 69980, 80)))
TURNED = Rule(((0, 5, 0), (3, 4, 1)))
TOWN = Purse(((0, 2), (500, 10), (3000, 1)))
PAIR, LEVEL = Purse(((1, 1), (3, 1))), Purse(((2, 2),))
FAR = 10 ** 29
MANY = 10 ** 72


class Checks(unittest.TestCase):
    def same(self, answers):
        """All these answers are the same pair, of a claim and a certificate for it."""
        for found in answers:
            self.assertEqual(found, answers[0])
        claim, paper = answers[0]
        self.assertEqual((type(answers[0]), type(claim)), (tuple, tuple))
        self.assertIs(accepts(claim, paper), True)
        return claim, paper

    def evening(self, one, other=None):
        answers = [certify_evening(one, other), certify_evening(one=one, other=other),
                   certify_evening(other=other, one=one)]
        if other is None:
            answers += [certify_evening(one), certify_evening(one=one), certify_evening(one, plain())]
        claim, paper = self.same(answers)
        self.assertEqual(claim[1:], (str(one), PLAIN if other is None else str(other)))
        if evens_more(one, other):
            self.assertEqual((claim[0], paper), ("more", ()))
        else:
            self.assertEqual(claim[0], "not more")
            self.assertIs(type(paper), str)
            shown = Purse.read(paper)
            self.assertLessEqual(shown.kinds[-1][0], 10 ** 30)
            against = plain() if other is None else other
            self.assertIs(is_as_even(behind(one, shown), behind(against, shown)), False)
        return claim[0]

    def order(self, first, second):
        claim, paper = self.same([certify_order(first, second), certify_order(first=first, second=second),
                                  certify_order(second=second, first=first)])
        self.assertEqual(claim[1:], (str(first), str(second)))
        if is_as_even(first, second):
            self.assertEqual((claim[0], paper), ("even", ()))
        else:
            self.assertEqual(claim[0], "uneven")
            self.assertEqual([type(paper), *[type(each) for each in paper]], [tuple, int, int])
            (top, bottom), (other_top, other_bottom) = held(first, *paper), held(second, *paper)
            self.assertLess(top * other_bottom, other_top * bottom)
        return claim[0]

    def gifts(self, first, second):
        answers = [certify_gifts(first, second), certify_gifts(first=first, second=second),
                   certify_gifts(second=second, first=first)]
        least = gifts(first, second)
        if least is None:
            self.assertEqual(answers, [None, None, None])
            return None
        claim, paper = self.same(answers)
        self.assertEqual(claim, ("gifts", str(first), str(second), least))
        self.assertEqual(sum(row[2] for row in paper), least)
        return paper


class Examples(Checks):
    def test_examples_of_the_interface(self):
        claim, paper = certify_evening(HELP)
        self.assertEqual(
            [claim[0], accepts(claim, paper), accepts(claim, "1 of 0"), certify_evening(DUES)[1],
             certify_order(behind(DUES, TOWN), TOWN)[0][0]],
            ["not more", True, False, (), "even"])
        self.assertEqual(
            [certify_gifts(PAIR, LEVEL), certify_order(PAIR, Purse(((5, 2),)))[0]],
            [(("gifts", "1 of 1\n1 of 3", "2 of 2", 1), ((3, 1, 1),)), ("uneven", "1 of 1\n1 of 3", "2 of 5")])

    def test_claims_word_by_word(self):
        self.assertEqual(certify_evening(DUES), (("more", str(DUES), PLAIN), ()))
        self.assertEqual(certify_evening(HELP, DUES)[0], ("not more", str(HELP), str(DUES)))
        self.assertEqual(certify_order(LEVEL, PAIR), (("even", "2 of 2", "1 of 1\n1 of 3"), ()))
        self.assertEqual(certify_gifts(PAIR, PAIR), (("gifts", "1 of 1\n1 of 3", "1 of 1\n1 of 3", 0), ()))


class Evening(Checks):
    def test_few_rules(self):
        for one, other, word in ((DUES, None, "more"), (HELP, None, "not more"), (TURNED, None, "not more"),
                                 (DUES, DUES, "more"), (plain(), DUES, "not more"), (HELP, DUES, "not more"),
                                 (Rule(((0, 0, 0),)), None, "more"), (plain(), None, "more")):
            self.assertEqual(self.evening(one, other), word)

    def test_small_rules(self):
        chance = random.Random(101)
        seen = {"more": 0, "not more": 0}
        for at in range(500):
            one = Rule(onebyone.some_bands(chance, 4, 8, 12, 3, ordered=at % 3 > 0))
            other = Rule(onebyone.some_bands(chance, 4, 8, 12, 3, ordered=True))
            word = self.evening(one, other)
            self.assertTrue(judge.is_true((word, str(one), str(other))))
            seen[word] += 1
        self.assertTrue(all(many > 50 for many in seen.values()), seen)

    def test_great_rules(self):
        chance = random.Random(102)
        seen = {"more": 0, "not more": 0}
        for at in range(300):
            bands = onebyone.some_bands(chance, 8, FAR, 10 ** 31, 1000, ordered=True)
            nearly = tuple((start, value + (at % 2 == 0 and start > 0), step) for start, value, step in bands)
            seen[self.evening(Rule(nearly), Rule(bands))] += 1
        self.assertTrue(all(many > 50 for many in seen.values()), seen)

    def test_contraries_far_out(self):
        top = 100 * FAR
        for bands in (((0, 0, 100), (FAR, top - 101, 100)), ((0, 0, 100), (FAR, top + 1, 100)),
                      ((0, 0, 100), (FAR, top, 101)), ((0, 0, 100), (FAR, 0, 0)), ((0, 10 ** 32, 0), (FAR, 0, 1000))):
            self.assertEqual(self.evening(Rule(bands)), "not more")
        most = Rule(tuple((at * 10 ** 28, 10 ** 32, 1000) for at in range(8)))
        self.assertEqual(self.evening(most), "not more")
        self.assertEqual(self.evening(Rule(((0, 10 ** 32, 0), (FAR, 10 ** 32 - 1, 0))),
                                      Rule(((0, 0, 0), (FAR, 10 ** 32, 1000)))), "not more")


class Order(Checks):
    def test_few_purses(self):
        for first, second, word in ((LEVEL, PAIR, "even"), (PAIR, LEVEL, "uneven"), (PAIR, PAIR, "even"),
                                    (Purse(((0, 1),)), PAIR, "even"), (PAIR, Purse(((0, 1),)), "uneven")):
            self.assertEqual(self.order(first, second), word)

    def test_small_purses(self):
        chance = random.Random(103)
        kinds = list(onebyone.purses(4, 4))
        seen = {"even": 0, "uneven": 0}
        for _ in range(600):
            first, second = chance.choice(kinds), chance.choice(kinds)
            word = self.order(Purse(first), Purse(second))
            self.assertEqual(word == "even", onebyone.as_even(first, second))
            seen[word] += 1
        self.assertTrue(all(many > 100 for many in seen.values()), seen)

    def test_greatest_purses(self):
        first = Purse(tuple((10 ** 36 - 30 + at, MANY) for at in range(30)))
        second = Purse(tuple((10 ** 36 - 31 + at, MANY) for at in range(30)))
        self.assertEqual((self.order(first, second), self.order(second, first)), ("even", "uneven"))
        odd = Purse(((0, MANY - 1), (1, 1)))
        self.assertEqual((self.order(odd, first), self.order(first, odd)), ("uneven", "even"))


class Gifts(Checks):
    def test_few_purses(self):
        self.assertEqual(self.gifts(PAIR, LEVEL), ((3, 1, 1),))
        self.assertEqual(self.gifts(PAIR, PAIR), ())
        self.assertEqual(self.gifts(Purse(((0, 2), (3, 1))), Purse(((1, 3),))), ((3, 0, 2),))
        self.assertEqual(self.gifts(Purse(((0, 1), (5, 2), (10, 1))), Purse(((1, 1), (4, 1), (6, 1), (9, 1)))),
                         ((5, 0, 1), (10, 5, 1)))

    def test_none(self):
        for first, second in ((LEVEL, PAIR), (Purse(((2, 1),)), LEVEL), (PAIR, Purse(((3, 2),))),
                              (Purse(((1, 2), (2, 1))), Purse(((1, 1), (2, 1), (3, 1)))),
                              (Purse(((0, 1), (4, 2))), Purse(((1, 1), (2, 1), (5, 1))))):
            self.assertIsNone(self.gifts(first, second))

    def test_small_purses(self):
        chance = random.Random(104)
        found = none = several = 0
        for _ in range(1500):
            amounts = sorted(chance.randint(0, 9) for _ in range(chance.randint(2, 7)))
            there = list(amounts)
            for _ in range(chance.randint(0, 6)):
                low, high = sorted(chance.sample(range(len(there)), 2))
                if there[high] - there[low] > 1 or chance.random() < 0.2 and there[high] > 0:
                    there[high], there[low] = there[high] - 1, there[low] + 1
            first, second = self.kinds(amounts), self.kinds(there)
            rows = self.gifts(Purse(first), Purse(second))
            expected = onebyone.gifts(first, second)
            self.assertEqual(rows is None, expected is None)
            if rows is None:
                none += 1
            else:
                self.assertTrue(judge.are_gifts(first, second, expected, rows), (first, second, rows))
                found += 1
                several += len(rows) > 2
        self.assertTrue(found > 800 and none > 20 and several > 50, (found, none, several))

    def kinds(self, amounts):
        return tuple((amount, amounts.count(amount)) for amount in sorted(set(amounts)))

    def test_greatest_purses(self):
        least = 10 ** 35 * MANY
        first = Purse(((0, MANY), (10 ** 36, MANY)))
        self.assertEqual(self.gifts(first, Purse(((10 ** 35, MANY), (9 * 10 ** 35, MANY)))), ((10 ** 36, 0, least),))
        self.assertEqual(self.gifts(first, Purse(((5 * 10 ** 35, MANY),))), None)
        twice = Purse(((0, MANY // 2), (10 ** 36, MANY // 2)))
        self.assertEqual(self.gifts(twice, Purse(((5 * 10 ** 35, MANY),))), ((10 ** 36, 0, 25 * 10 ** 106),))

    def test_thirty_kinds(self):
        first = Purse(tuple((10 * at, MANY) for at in range(30)))
        nearer = tuple((10 * at + (3 if at < 15 else -3), MANY) for at in range(30))
        rows = self.gifts(first, Purse(nearer))
        self.assertEqual(sum(row[2] for row in rows), 45 * MANY)
        # Neighbours give to one another, in pairs.
        pairs = tuple((10 * at + (4 if at % 2 == 0 else -4), MANY) for at in range(30))
        self.assertEqual(self.gifts(first, Purse(pairs)),
                         tuple((10 * at, 10 * at - 10, 4 * MANY) for at in range(1, 30, 2)))


class Errors(Refusing):
    def test_no_rules(self):
        for value in (*ODD, *STRINGS, *INTEGERS, *TUPLES, Rule, TOWN, PLAIN):
            self.refused(lambda: certify_evening(value), NotARule, given=value)
            self.refused(lambda: certify_evening(other=DUES, one=value), NotARule, given=value)
            if value is not None:
                self.refused(lambda: certify_evening(DUES, value), NotARule, given=value)
                self.refused(lambda: certify_evening(other=value, one=TURNED), NotARule, given=value)

    def test_the_order_of_errors(self):
        self.refused(lambda: certify_evening("one", "other"), NotARule, given="one")
        self.refused(lambda: certify_evening("one", TURNED), NotARule, given="one")
        self.refused(lambda: certify_evening(other=TURNED, one=None), NotARule, given=None)
        for action in (certify_order, certify_gifts):
            self.refused(lambda: action("first", "second"), NotAPurse, given="first")
            self.refused(lambda: action(second="second", first="first"), NotAPurse, given="first")

    def test_order_turned(self):
        far = Rule(((0, 0, 100), (FAR, 100 * FAR - 101, 100)))
        for one in (DUES, TURNED, plain(), far):
            self.refused(lambda: certify_evening(one, TURNED), OrderTurned, given=2)
            self.refused(lambda: certify_evening(other=far, one=one), OrderTurned, given=FAR - 1)

    def test_no_purses(self):
        for value in (*ODD, *STRINGS, *INTEGERS, *TUPLES, Purse, DUES, str(TOWN), TOWN.kinds):
            for action in (certify_order, certify_gifts):
                self.refused(lambda: action(value, TOWN), NotAPurse, given=value)
                self.refused(lambda: action(second=TOWN, first=value), NotAPurse, given=value)
                self.refused(lambda: action(TOWN, value), NotAPurse, given=value)
                self.refused(lambda: action(second=value, first=TOWN), NotAPurse, given=value)

    def test_what_was_passed_stays(self):
        one, first, second = Rule(HELP.bands), Purse(PAIR.kinds), Purse(LEVEL.kinds)
        for _ in range(2):
            self.assertEqual(certify_evening(one), certify_evening(HELP))
            self.assertEqual(certify_order(first, second), certify_order(PAIR, LEVEL))
            self.assertEqual(certify_gifts(first, second), certify_gifts(PAIR, LEVEL))
        self.assertEqual((one.bands, first.kinds, second.kinds), (HELP.bands, PAIR.kinds, LEVEL.kinds))
        self.assertEqual(contrary(one), contrary(HELP))


if __name__ == "__main__":
    unittest.main()

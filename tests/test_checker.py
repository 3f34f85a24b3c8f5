import itertools
import random
import unittest

import judge
import onebyone
from evenedshares.certificates import certify_evening, certify_gifts, certify_order
from evenedshares.checker import accepts
from evenedshares.evening import contrary, evens_more
from evenedshares.purses import Purse
from evenedshares.rules import Rule, plain
from strange import INTEGERS, ODD, STRINGS, TUPLES, Touchy

PLAIN = "from 0 value 0 step 100"
DUES = "from 0 value 0 step 100\nfrom 1000 value 100000 step 60"
HELP = "from 0 value 50000 step 20\nfrom 1000 value 69980 step 80"
TURNED = "from 0 value 5 step 0\nfrom 3 value 4 step 1"
PAIR, LEVEL = "1 of 1\n1 of 3", "2 of 2"
FAR = 10 ** 29
MANY = 10 ** 72


class Liar:
    """An object that says that it is a tuple."""

    @property
    def __class__(self):
        return tuple


class Shy:
    """An object of which nothing can be asked."""

    def __getattribute__(self, name):
        raise RuntimeError("asked")


# None of these is part of a claim or a certificate.
WILD = (*ODD, Liar(), Shy(), Touchy(), (Touchy(),), [Touchy()], (Liar(), Shy()), {"more": Shy()}, Purse(((1, 1),)),
        plain(), accepts)
TEXTS_OF_NONE = ("", "\n", PLAIN + "\n", " " + PLAIN, PLAIN + " ", "from 00 value 0 step 100", "from 1 value 0 step 1",
                 "from 0 value -1 step 100", "from 0 value 0 step 1001", "from 0 value 5 step -1",
                 "from 0 value 0 step -0", "from 0 value 0", "1 of 1", PLAIN + "\n" + PLAIN, PLAIN.encode())
PURSES_OF_NONE = ("", "\n", "1 of 1\n", "1 of 1\n1 of 1", "2 of 3\n1 of 1", "0 of 1", "01 of 1", "1 of 01", "-1 of 1",
                  "1 of -1", "1 of", "1  of 1", " 1 of 1", f"{MANY + 1} of 1", f"1 of {10 ** 36 + 1}", PLAIN,
                  "\n".join(f"1 of {at}" for at in range(31)), b"1 of 1")


class Checks(unittest.TestCase):
    def says(self, expected, claim, certificate):
        with self.subTest(claim=repr(type(claim)), certificate=repr(type(certificate))):
            self.assertIs(accepts(claim, certificate), expected)
            self.assertIs(accepts(claim=claim, certificate=certificate), expected)
            self.assertIs(accepts(certificate=certificate, claim=claim), expected)

    def right(self, claim, certificate):
        self.says(True, claim, certificate)

    def wrong(self, claim, certificate):
        self.says(False, claim, certificate)


class NoClaims(Checks):
    CLAIMS = (
        (("more", DUES, PLAIN), ()), (("not more", HELP, PLAIN), "1 of 1000\n1 of 1001"), (("even", LEVEL, PAIR), ()),
        (("uneven", PAIR, LEVEL), (1, 2)), (("gifts", PAIR, LEVEL, 1), ((3, 1, 1),)),
    )

    def test_these_are_claims(self):
        for claim, certificate in self.CLAIMS:
            self.right(claim, certificate)

    def test_other_values(self):
        for value in (*WILD, *STRINGS, *INTEGERS, *TUPLES, "more", ("more",), ((),), ("gifts",), ("even",)):
            for claim, certificate in self.CLAIMS:
                self.wrong(value, certificate)
                self.wrong(value, claim)
            self.wrong(value, value)

    def test_lists(self):
        for claim, certificate in self.CLAIMS:
            self.wrong(list(claim), certificate)
            self.wrong([claim], certificate)
            self.wrong((claim,), certificate)

    def test_other_words(self):
        for claim, certificate in self.CLAIMS:
            for word in (*WILD, *INTEGERS, *TUPLES, "", "More", "more ", "less", "same", "neither", "gift", "notmore",
                         "not  more", "none", "odd", b"more", ("more",)):
                self.wrong((word, *claim[1:]), certificate)
        for (claim, certificate), (other, _) in itertools.permutations(self.CLAIMS, 2):
            self.wrong((other[0], *claim[1:]), certificate)

    def test_other_numbers_of_elements(self):
        for claim, certificate in self.CLAIMS:
            for more in (None, (), PLAIN, PAIR, 0, 1, certificate):
                self.wrong((*claim, more), certificate)
            for many in range(len(claim)):
                self.wrong(claim[:many], certificate)

    def test_texts_of_rules_that_are_none(self):
        for claim, certificate in self.CLAIMS[:2]:
            for value in (*TEXTS_OF_NONE, *WILD, *INTEGERS, *TUPLES, "1 of 1000\n1 of 1001"):
                self.wrong((claim[0], value, claim[2]), certificate)
                self.wrong((claim[0], claim[1], value), certificate)
                self.wrong((claim[0], value, value), certificate)

    def test_texts_of_purses_that_are_none(self):
        for claim, certificate in self.CLAIMS[2:]:
            for value in (*PURSES_OF_NONE, *WILD, *INTEGERS, *TUPLES):
                self.wrong((claim[0], value, *claim[2:]), certificate)
                self.wrong((*claim[:2], value, *claim[3:]), certificate)
                self.wrong((claim[0], value, value, *claim[3:]), certificate)

    def test_sums_that_are_none(self):
        for value in (*WILD, *STRINGS, *TUPLES, -1, 0, 2, -10 ** 79, True, False):
            self.wrong(("gifts", PAIR, LEVEL, value), ((3, 1, 1),))
            self.wrong(("gifts", PAIR, LEVEL, value), ((3, 1, value),))
        for value in (False, -1, 1, True, None):
            self.wrong(("gifts", PAIR, PAIR, value), ())
        self.right(("gifts", PAIR, PAIR, 0), ())


class NoCertificates(Checks):
    def test_other_values(self):
        values = (*WILD, *STRINGS, *INTEGERS, *TUPLES, "1 of 1000\n1 of 1001", (1, 2), ((3, 1, 1),), [], [1, 2],
                  [(3, 1, 1)], ([3, 1, 1],), (1, 2, 3), (True, 2), (1, True), ("1", "2"), (Touchy(), Touchy()),
                  (Shy(), 2), ((3, 1, Touchy()),), ((Liar(), 1, 1),), (Liar(),), Liar(), Shy(), {1: 2})
        fitting = {"more": (), "even": (), "not more": "1 of 1000\n1 of 1001", "uneven": (1, 2),
                   "gifts": ((3, 1, 1),)}
        for claim, _ in NoClaims.CLAIMS:
            for value in values:
                # By what they look like, as some of them cannot be compared.
                self.says(repr(value) == repr(fitting[claim[0]]), claim, value)


class More(Checks):
    def test_right_and_wrong_claims(self):
        for one, other, expected in ((DUES, PLAIN, True), (HELP, PLAIN, False), (PLAIN, DUES, False),
                                     (PLAIN, PLAIN, True), (DUES, HELP, False), (HELP, DUES, False)):
            self.says(expected, ("more", one, other), ())
            self.wrong(("more", one, other), "1 of 1")
            self.wrong(("more", one, other), ((),))

    def test_where_the_second_rule_turns_order(self):
        level = "from 0 value 7 step 0"
        for one in (PLAIN, TURNED, level, DUES):
            self.wrong(("more", one, TURNED), ())
        self.right(("more", level, PLAIN), ())

    def test_great_rules(self):
        for end, expected in ((99, False), (100, True), (101, True)):
            far = str(Rule(((0, 0, 100), (FAR, 100 * FAR - 200 + end, 1))))
            self.says(expected, ("more", far, PLAIN), ())
        fall = str(Rule(((0, 0, 100), (FAR, 100 * FAR - 101, 100))))
        self.wrong(("more", fall, PLAIN), ())
        self.wrong(("more", str(Rule(((0, 0, 0),))), fall), ())
        eight = str(Rule(tuple((at * 10 ** 28, at * 10 ** 30, 100) for at in range(8))))
        self.right(("more", eight, PLAIN), ())
        self.right(("more", PLAIN, eight), ())


class NotMore(Checks):
    def test_right_and_wrong_purses(self):
        claim = ("not more", HELP, PLAIN)
        for shown, expected in (("1 of 1000\n1 of 1001", True), ("5 of 2000\n5 of 3000", True),
                                ("1 of 0\n1 of 5", False), ("1 of 1000", False), ("1 of 999\n1 of 1000", False),
                                ("1 of 0\n1 of 1000000", False), ("3 of 1000\n1 of 999999", True)):
            self.says(expected, claim, shown)
        for shown in PURSES_OF_NONE:
            self.wrong(claim, shown)
        for shown in (["1 of 1000\n1 of 1001"], ("1 of 1000\n1 of 1001",), Purse(((1000, 1), (1001, 1)))):
            self.wrong(claim, shown)

    def test_amounts_to_10_to_the_30(self):
        # Shares differ by what both leave of the lowest one.
        one, other = "from 0 value 0 step 100", "from 0 value 1 step 100"
        self.right(("not more", one, other), f"1 of 0\n1 of {10 ** 30}")
        self.wrong(("not more", one, other), f"1 of 0\n1 of {10 ** 30 + 1}")
        self.wrong(("not more", one, other), f"1 of 0\n1 of 1\n1 of {10 ** 36}")

    def test_where_it_evens_more_no_purse_is_right(self):
        for one, other in ((DUES, PLAIN), (PLAIN, PLAIN), ("from 0 value 3 step 0", DUES)):
            for kinds in onebyone.purses(3, 4):
                self.wrong(("not more", one, other), str(Purse(kinds)))
            self.wrong(("not more", one, other), f"1 of 999\n{MANY} of 1000\n5 of 1001\n1 of {10 ** 30}")

    def test_where_the_second_rule_turns_order(self):
        # It leaves 5, 5, 5, 4, 5, 6 of the first incomes.
        self.right(("not more", PLAIN, TURNED), "1 of 3\n1 of 4")
        self.right(("not more", TURNED, "from 0 value 7 step 0"), "1 of 2\n1 of 3")
        self.wrong(("not more", "from 0 value 7 step 0", TURNED), "1 of 2\n1 of 3")
        self.wrong(("not more", TURNED, TURNED), "1 of 2\n1 of 3\n4 of 9")
        # What the second rule leaves less of the higher income, the first one spreads further apart.
        self.right(("not more", "from 0 value 0 step 1", TURNED), "1 of 2\n1 of 3")
        self.wrong(("not more", "from 0 value 90 step 1", TURNED), "1 of 2\n1 of 3")

    def test_any_number_of_people_is_put_together(self):
        # Behind the rule, which is level up to 10, more people than a kind of a purse may have.
        level = "from 0 value 500 step 0\nfrom 10 value 1000 step 100"
        thirty = "\n".join(f"{MANY} of {at}" for at in range(30))
        self.right(("not more", level, "from 0 value 7 step 0"), thirty)
        self.wrong(("not more", level, level), thirty)
        self.wrong(("not more", "from 0 value 7 step 0", level), thirty)

    def test_great_numbers(self):
        one = str(Rule(((0, 10 ** 32, 0), (FAR, 10 ** 32 - 1, 0))))
        other = str(Rule(((0, 0, 0), (FAR, 10 ** 32, 1000))))
        least = 10 ** 32
        self.right(("not more", one, other), f"1 of {FAR - 1}\n{least + 1} of {FAR}")
        self.wrong(("not more", one, other), f"1 of {FAR - 1}\n{least - 1} of {FAR}")
        self.right(("not more", one, other), f"1 of {FAR - 1}\n{MANY} of {FAR}")


class Orders(Checks):
    def test_even(self):
        for first, second, expected in ((LEVEL, PAIR, True), (PAIR, LEVEL, False), (PAIR, PAIR, True),
                                        ("9 of 0", PAIR, True), (PAIR, "1 of 0", False), ("3 of 7", "1 of 2", True),
                                        (f"{MANY} of 1\n{MANY} of 3", PAIR, True),
                                        (f"{MANY} of 1\n{MANY - 1} of 3", PAIR, False)):
            self.says(expected, ("even", first, second), ())
            self.wrong(("even", first, second), (1, 2))
            self.wrong(("even", first, second), ((),))

    def test_uneven(self):
        claim = ("uneven", PAIR, LEVEL)
        for part, whole, expected in ((1, 2, True), (2, 4, True), (50, 100, True), (1, 100, True), (99, 100, True),
                                      (0, 1, False), (1, 1, False), (7, 7, False), (0, 0, False), (1, 0, False),
                                      (-1, 2, False), (3, 2, False), (-1, -2, False), (1, -2, False),
                                      (10 ** 79, 2 * 10 ** 79, True), (1, 10 ** 79, True)):
            self.says(expected, claim, (part, whole))
            self.wrong(("uneven", LEVEL, PAIR), (part, whole))
            self.wrong(claim, [part, whole])
            self.wrong(claim, (part, whole, 1))
        self.wrong(claim, (True, 2))
        self.wrong(claim, (1,))
        self.wrong(claim, ())

    def test_a_fraction_for_which_it_is_not_less(self):
        # The lowest quarter has more in the first purse, the lowest half has less.
        claim = ("uneven", "1 of 2\n2 of 3\n1 of 12", "1 of 1\n2 of 5\n1 of 9")
        for part, whole, expected in ((1, 4, False), (1, 2, True), (2, 4, True), (3, 4, True), (3, 8, False),
                                      (2, 5, True), (1, 1, False)):
            self.says(expected, claim, (part, whole))

    def test_greatest_purses(self):
        first = "\n".join(f"{MANY} of {10 ** 36 - 30 + at}" for at in range(30))
        second = "\n".join(f"{MANY} of {10 ** 36 - 31 + at}" for at in range(30))
        self.right(("even", first, second), ())
        self.wrong(("even", second, first), ())
        self.right(("uneven", second, first), (1, 30))
        self.right(("uneven", second, first), (MANY, 30 * MANY))
        self.wrong(("uneven", first, second), (MANY, 30 * MANY))


class Gifts(Checks):
    # Two give, and two get: 9 has 3 more, 6 has 1 more; 1 has 3 less, 4 has 1 less.
    FIRST, SECOND = "1 of 1\n1 of 4\n1 of 6\n1 of 9", "1 of 4\n2 of 5\n1 of 6"
    ROWS = ((6, 1, 1), (9, 1, 2), (9, 4, 1))

    def claim(self, least=4):
        return "gifts", self.FIRST, self.SECOND, least

    def test_right_ones(self):
        self.right(self.claim(), self.ROWS)
        self.right(self.claim(), ((6, 4, 1), (9, 1, 3)))
        self.wrong(self.claim(), ())

    def test_rows_left_out(self):
        for at in range(3):
            self.wrong(self.claim(), self.ROWS[:at] + self.ROWS[at + 1:])
            self.wrong(self.claim(4 - self.ROWS[at][2]), self.ROWS[:at] + self.ROWS[at + 1:])

    def test_rows_twice(self):
        for at in range(3):
            self.wrong(self.claim(), self.ROWS[:at] + self.ROWS[at:at + 1] + self.ROWS[at:])
        # Put together they are right, but not as two rows.
        self.wrong(self.claim(), ((6, 1, 1), (9, 1, 1), (9, 1, 1), (9, 4, 1)))

    def test_another_order(self):
        for rows in itertools.permutations(self.ROWS):
            self.says(rows == self.ROWS, self.claim(), rows)

    def test_from_lower_to_higher(self):
        self.wrong(self.claim(), ((1, 6, 1), (9, 1, 2), (9, 4, 1)))
        self.wrong(("gifts", LEVEL, PAIR, 1), ((2, 2, 1),))
        self.wrong(("gifts", LEVEL, PAIR, 1), ((1, 3, 1),))
        # To one with the same amount: here both places of 5 would be served.
        first, second = "2 of 5", "1 of 4\n1 of 6"
        self.wrong(("gifts", first, second, 1), ((5, 5, 1),))

    def test_amounts_that_nobody_has(self):
        self.wrong(self.claim(), ((6, 1, 1), (8, 1, 1), (9, 1, 1), (9, 4, 1)))
        self.wrong(self.claim(), ((6, 1, 1), (9, 1, 2), (9, 5, 1)))
        self.wrong(self.claim(), ((6, 0, 1), (9, 1, 2), (9, 4, 1)))
        self.wrong(self.claim(), (*self.ROWS, (10, 1, 1)))
        self.wrong(self.claim(5), (*self.ROWS, (10, 0, 1)))

    def test_another_sum(self):
        for least in (0, 1, 3, 5, 10 ** 79):
            self.wrong(self.claim(least), self.ROWS)
        self.wrong(self.claim(5), ((6, 1, 1), (9, 1, 2), (9, 4, 2)))

    def test_amounts_of_less_than_1(self):
        self.wrong(self.claim(), ((6, 1, 1), (6, 4, 0), (9, 1, 2), (9, 4, 1)))
        self.wrong(self.claim(), ((6, 1, 2), (6, 4, -1), (9, 1, 1), (9, 4, 2)))
        self.wrong(("gifts", PAIR, PAIR, 0), ((3, 1, 0),))

    def test_no_triples_of_integers(self):
        for row in (*WILD, *INTEGERS, *STRINGS, (), (6, 1), (6, 1, 1, 1), [6, 1, 1], ("6", 1, 1), (6, True, 1),
                    (6, 1, True), (6, 1, "1"), ((6, 1, 1),)):
            self.wrong(self.claim(), (row, *self.ROWS[1:]))
        self.wrong(self.claim(), list(self.ROWS))

    def test_right_sums_that_do_not_lead_there(self):
        # All is given that is had more, but to the wrong ones.
        self.wrong(self.claim(), ((6, 1, 1), (9, 4, 3)))
        self.wrong(self.claim(), ((6, 1, 1), (9, 1, 3)))
        self.wrong(self.claim(), ((6, 4, 1), (9, 1, 2), (9, 4, 1)))
        # All is got that is had less, but from the wrong ones.
        self.wrong(self.claim(), ((6, 1, 3), (6, 4, 1)))
        self.wrong(self.claim(), ((6, 1, 1), (6, 4, 1), (9, 1, 2)))
        # One gives to the other, who gives on.
        self.wrong(self.claim(5), ((6, 1, 2), (9, 1, 1), (9, 4, 1), (9, 6, 1)))

    def test_purses_between_which_there_are_no_gifts(self):
        self.wrong(("gifts", LEVEL, PAIR, 1), ())
        # Other numbers of people, another total, neither more even.
        self.wrong(("gifts", "1 of 2", LEVEL, 0), ())
        self.wrong(("gifts", PAIR, "2 of 3", 0), ())
        self.wrong(("gifts", "2 of 2", "2 of 3", 0), ())
        self.wrong(("gifts", "1 of 1\n1 of 3", "1 of 2\n1 of 3", 1), ((3, 1, 1),))
        self.wrong(("gifts", "2 of 1\n1 of 7", "3 of 3\n1 of 0", 4), ((7, 1, 4),))
        self.wrong(("gifts", "1 of 0\n2 of 5\n1 of 10", "1 of 1\n1 of 3\n1 of 7\n1 of 9", 3), ((5, 0, 1), (10, 5, 1)))

    def test_one_kind_gives_and_gets(self):
        claim = ("gifts", "1 of 0\n2 of 5\n1 of 10", "1 of 1\n1 of 4\n1 of 6\n1 of 9", 2)
        self.right(claim, ((5, 0, 1), (10, 5, 1)))
        self.wrong(claim, ((5, 5, 1), (10, 0, 1)))
        self.wrong(claim, ((10, 0, 1),))
        self.wrong((*claim[:3], 1), ((10, 0, 1),))

    def test_greatest_purses(self):
        first = f"{MANY} of 0\n{MANY} of {10 ** 36}"
        second = f"{MANY} of {10 ** 35}\n{MANY} of {9 * 10 ** 35}"
        least = 10 ** 35 * MANY
        self.right(("gifts", first, second, least), ((10 ** 36, 0, least),))
        self.wrong(("gifts", first, second, least - 1), ((10 ** 36, 0, least - 1),))
        self.wrong(("gifts", first, second, least), ((10 ** 36, 0, least - 1),))
        self.wrong(("gifts", first, second, least + 1), ((10 ** 36, 0, least + 1),))


class Judged(Checks):
    """Claims put together of any texts, with certificates from everywhere."""

    def rules(self, chance, many):
        found = [onebyone.some_bands(chance, 3, 5, 9, 3, ordered=at % 3 > 0) for at in range(many)]
        return [str(Rule(bands)) for bands in found] + [PLAIN, "from 0 value 0 step 0", TURNED]

    def purses(self, chance, many):
        found = []
        for _ in range(many):
            amounts = sorted(chance.sample(range(7), chance.randint(1, 3)))
            found.append(str(Purse(tuple((amount, chance.randint(1, 3)) for amount in amounts))))
        return found + ["1 of 0", LEVEL, PAIR]

    def test_rules(self):
        chance = random.Random(91)
        seen = {}
        rules, purses = self.rules(chance, 25), self.purses(chance, 12)
        for one, other in itertools.product(rules, rules):
            certificates = [(), *chance.sample(purses, 3), f"1 of {chance.randint(0, 4)}\n9 of {chance.randint(5, 6)}"]
            for word, paper in itertools.product(("more", "not more"), certificates):
                self.judged((word, one, other), paper, seen)
        self.assertTrue(all(seen.get((word, told), 0) > 50 for word in ("more", "not more") for told in (True, False)),
                        seen)

    def test_purses(self):
        chance = random.Random(92)
        seen = {}
        purses = self.purses(chance, 30)
        for first, second in itertools.product(purses, purses):
            part = chance.randint(-1, 12)
            for paper in ((), (part, 12), (part, part + 1), ((3, 1, 1),), PAIR):
                self.judged(("even", first, second), paper, seen)
                self.judged(("uneven", first, second), paper, seen)
        self.assertTrue(all(seen.get((word, told), 0) > 50 for word in ("even", "uneven") for told in (True, False)),
                        seen)

    def test_gifts(self):
        chance = random.Random(93)
        seen = {}
        while seen.get(("gifts", True), 0) < 100:
            first, second = self.nearer(chance)
            least = onebyone.gifts(judge.purse_with(first), judge.purse_with(second))
            amounts = [amount for amount, count in judge.purse_with(first)]
            whole = certify_gifts(Purse.read(first), Purse.read(second))
            right = whole[1] if whole else ()
            for paper in (right, self.spoiled(chance, right), self.any_rows(chance, amounts, least or 0)):
                for number in {least or 0, sum(row[2] for row in paper), chance.randint(0, 5)}:
                    self.judged(("gifts", first, second, number), paper, seen)
        self.assertGreater(seen["gifts", False], 100)

    def nearer(self, chance):
        """Two purses of as many people, of which the second has had gifts, mostly from richer to poorer."""
        amounts = sorted(chance.randint(0, 9) for _ in range(chance.randint(2, 6)))
        there = list(amounts)
        for _ in range(chance.randint(0, 4)):
            low, high = sorted(chance.sample(range(len(there)), 2))
            if chance.random() < 0.2:
                low, high = high, low
            if there[high] > there[low] or there[high] > 0 and chance.random() < 0.2:
                there[high] -= 1
                there[low] += 1
        return self.purse_of(amounts), self.purse_of(sorted(there))

    def purse_of(self, amounts):
        return "\n".join(f"{len(list(group))} of {amount}" for amount, group in itertools.groupby(amounts))

    def spoiled(self, chance, rows):
        """These rows with one of them different."""
        rows = [list(row) for row in rows]
        if rows:
            rows[chance.randrange(len(rows))][chance.randrange(3)] += chance.choice((-1, 1))
        return tuple(tuple(row) for row in rows)

    def any_rows(self, chance, amounts, least):
        """Rows in order between these amounts that together make up the sum, if it can be."""
        rows = {}
        for _ in range(least):
            taker, giver = sorted((chance.choice(amounts), chance.choice(amounts)))
            rows[giver, taker] = rows.get((giver, taker), 0) + 1
        return tuple(sorted((*pair, many) for pair, many in rows.items()))

    def judged(self, claim, paper, seen):
        said = accepts(claim, paper)
        self.assertIs(said, judge.accepts(claim, paper), (claim, paper))
        if said:
            self.assertIn(judge.is_true(claim), (True, None), claim)
        seen[claim[0], said] = seen.get((claim[0], said), 0) + 1

    def test_certificates_of_this_package_for_other_claims(self):
        """What is made for one claim is no certificate for others, but where it shows them, too."""
        chance = random.Random(94)
        rules, purses = self.rules(chance, 5), self.purses(chance, 6)
        made = [certify_evening(Rule.read(one), Rule.read(other)) for one, other in itertools.product(rules, rules)
                if judge.keeps_order(judge.rule_with(other))]
        pairs = [(Purse.read(first), Purse.read(second)) for first, second in itertools.product(purses, purses)]
        made += [certify_order(*pair) for pair in pairs]
        made += [certify_gifts(*pair) for pair in pairs if certify_gifts(*pair) is not None]
        papers = chance.sample([paper for _, paper in made], 25)
        for claim, paper in made:
            self.right(claim, paper)
            for other in papers:
                self.assertIs(accepts(claim, other), judge.accepts(claim, other))


class Contraries(Checks):
    def test_each_contrary_is_a_certificate(self):
        chance = random.Random(95)
        shown = 0
        for at in range(200):
            small = at % 2 == 0
            bounds = (3, 5, 9, 3) if small else (8, FAR, 10 ** 32, 1000)
            one = Rule(onebyone.some_bands(chance, *bounds, ordered=at % 3 > 0))
            other = Rule(onebyone.some_bands(chance, *bounds, ordered=True))
            purse = contrary(one, other)
            self.says(evens_more(one, other), ("more", str(one), str(other)), ())
            if purse is not None:
                self.right(("not more", str(one), str(other)), str(purse))
                shown += 1
        self.assertGreater(shown, 80)


if __name__ == "__main__":
    unittest.main()

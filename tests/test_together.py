"""All parts of the program against one another."""

import random
import unittest

import onebyone
from evenedshares.books import Book
from evenedshares.certificates import certify_evening, certify_gifts, certify_order
from evenedshares.checker import accepts
from evenedshares.curves import crossing, gifts, held, is_as_even, order, unevenness
from evenedshares.drafts import Draft
from evenedshares.errors import Broken
from evenedshares.evening import breaking, contrary, evens_more, least_lump, windows
from evenedshares.leaving import above, leaves_more
from evenedshares.mending import mending
from evenedshares.purses import Purse, behind, taken
from evenedshares.rules import Rule, keeps_order, plain
from evenedshares.views import evens_differences, views

FAR = 10 ** 29


def some_rules(chance, many):
    """Pairs of rules, small and great ones, of which the second one keeps order."""
    for at in range(many):
        bounds = ((3, 6, 12, 3), (4, 60, 5000, 130), (8, FAR, 10 ** 32, 1000))[at % 3]
        other = onebyone.some_bands(chance, *bounds, ordered=True)
        one = onebyone.some_bands(chance, *bounds, ordered=at % 5 > 0)
        if at % 4 == 0:
            # Nearly the same, so that it often evens more.
            one = tuple((start, min(10 ** 32, value + chance.choice((0, 0, 1))), max(0, step - chance.choice((0, 1))))
                        for start, value, step in other)
        yield Rule(one), Rule(other)


class Evening(unittest.TestCase):
    def test_all_say_whether_a_rule_evens_more(self):
        chance = random.Random(111)
        seen = {True: 0, False: 0}
        for one, other in some_rules(chance, 600):
            evens = evens_more(one, other)
            shown, lump, found = contrary(one, other), least_lump(one, other), views(one, other)
            self.assertIs(breaking(one, other) is None, evens)
            self.assertIs(shown is None, evens)
            self.assertIs(windows(one, other) == ((0, None),), evens)
            self.assertIs(lump == 0, evens)
            self.assertIs(found is not None and found[0] == 0, evens)
            self.assertIs(mending(one, (), other) == ((),), evens)
            claim, paper = certify_evening(one, other)
            self.assertEqual((claim[0], paper), ("more", ()) if evens else ("not more", str(shown)))
            self.assertIs(accepts(claim, paper), True)
            self.assertIs(accepts(("more", str(one), str(other)), ()), evens)
            if not evens:
                self.assertLess(order_of(behind(one, shown), behind(other, shown)), 0)
            seen[evens] += 1
        self.assertTrue(all(many > 80 for many in seen.values()), seen)

    def test_lumps_and_views_beside_rules_that_leave_more(self):
        chance = random.Random(112)
        told = 0
        for one, other in some_rules(chance, 300):
            lump = least_lump(one, other)
            if lump is not None and self.can_be_lifted(one, lump):
                lifted = Rule(onebyone.lifted(one.bands, lump))
                self.assertTrue(evens_more(lifted, other))
                self.assertEqual(accepts(*certify_evening(lifted, other)), True)
                self.assertTrue(leaves_more(lifted, one))
                told += 1
            for view in views(one, other) or ():
                if view is not None and self.can_be_lifted(one, view) and self.can_be_lifted(other, view):
                    pair = [Rule(onebyone.lifted(rule.bands, view)) for rule in (one, other)]
                    self.assertTrue(evens_more(*pair))
        self.assertGreater(told, 50)

    def can_be_lifted(self, rule, lump):
        return all(value + lump <= 10 ** 32 for start, value, step in rule.bands)

    def test_differences_beside_views(self):
        """Where a rule evens more by some view, it does by differences exactly if there is no greatest one."""
        chance = random.Random(113)
        seen = {True: 0, False: 0}
        for one, other in some_rules(chance, 400):
            found = views(one, other)
            if found is not None:
                self.assertIs(evens_differences(one, other), found[1] is None)
                seen[found[1] is None] += 1
        self.assertTrue(all(many > 5 for many in seen.values()), seen)

    def test_purses_behind_rules_that_even_all(self):
        chance = random.Random(114)
        told = 0
        for one, other in some_rules(chance, 200):
            if not evens_more(one, other):
                continue
            amounts = sorted(chance.sample(range(200), 5)) if chance.random() < 0.5 else [0, 7, 10 ** 28, FAR, 10 ** 30]
            purse = Purse(tuple((amount, chance.randint(1, 10 ** 9)) for amount in amounts))
            first, second = behind(one, purse), behind(other, purse)
            self.assertIn(order(first, second), ("same", "more"))
            self.assertEqual(certify_order(first, second)[0][0], "even")
            self.assertLessEqual(fraction(unevenness(first)), fraction(unevenness(second)))
            told += 1
        self.assertGreater(told, 30)

    def test_what_is_shown_takes_what_it_takes(self):
        chance = random.Random(115)
        for one, other in some_rules(chance, 100):
            shown = contrary(one, other)
            if shown is not None:
                self.assertEqual(taken(one, shown), 100 * shown.total - behind(one, shown).total)
                self.assertEqual(Purse.read(str(shown)), shown)


def order_of(first, second):
    """-1 if the first purse is not at least as even, as all parts say."""
    crossed = crossing(first, second)
    if crossed is None:
        return 0 if is_as_even(first, second) else 1
    return -1 if fraction(held(first, *crossed)) < fraction(held(second, *crossed)) else 1


def fraction(pair):
    return onebyone.Fraction(*pair)


class Orders(unittest.TestCase):
    def test_all_say_which_purse_is_more_even(self):
        chance = random.Random(116)
        words = {}
        for _ in range(500):
            first, second = self.some_purse(chance), self.some_purse(chance)
            word = order(first, second)
            for one, other, even in ((first, second, "more"), (second, first, "less")):
                said = word in ("same", even)
                self.assertIs(is_as_even(one, other), said)
                self.assertIs(crossing(one, other) is None, said)
                claim, paper = certify_order(one, other)
                self.assertEqual((claim[0], paper), ("even", ()) if said else ("uneven", crossing(one, other)))
                self.assertIs(accepts(claim, paper), True)
                self.assertIs(accepts(("even", str(one), str(other)), ()), said)
            words[word] = words.get(word, 0) + 1
        self.assertTrue(all(words.get(word, 0) > 20 for word in ("more", "less", "neither")), words)

    def some_purse(self, chance):
        most, count = chance.choice(((9, 3), (10 ** 36, 10 ** 72)))
        amounts = sorted({chance.randint(0, most) for _ in range(chance.randint(1, 4))})
        return Purse(tuple((amount, chance.randint(1, count)) for amount in amounts))

    def test_gifts(self):
        chance = random.Random(117)
        told = 0
        for _ in range(600):
            first = self.some_purse(chance)
            second = self.after_gifts(chance, first)
            least, made = gifts(first, second), certify_gifts(first, second)
            self.assertIs(made is None, least is None)
            if made is not None:
                self.assertIs(accepts(*made), True)
                self.assertEqual((made[0][3], sum(row[2] for row in made[1])), (least, least))
                self.assertIn(order(second, first), ("same", "more"))
                self.assertEqual(order(first, second) == "same", least == 0)
                told += least > 0
        self.assertGreater(told, 100)

    def after_gifts(self, chance, purse):
        """The purse behind a gift from each one of the highest to each one of as many of the lowest."""
        kinds = dict(purse.kinds)
        low, high = purse.kinds[0][0], purse.kinds[-1][0]
        if high - low < 2:
            return purse
        gift, many = chance.randint(1, (high - low) // 2), min(kinds[low], kinds[high])
        for amount, change in ((low, -many), (high, -many), (low + gift, many), (high - gift, many)):
            kinds[amount] = kinds.get(amount, 0) + change
        return Purse(tuple(sorted((amount, count) for amount, count in kinds.items() if count)))


class DraftsAndBooks(unittest.TestCase):
    def test_drafts(self):
        chance = random.Random(118)
        for one, _ in some_rules(chance, 150):
            draft = Draft(one)
            changes = tuple((index, value, chance.choice((0, step))) for index, (_, value, step) in
                            list(enumerate(one.bands))[:6] if step >= 0)
            for chosen in mending(one, changes):
                with draft.trial():
                    for at in chosen:
                        draft.turn(*changes[at])
                    self.assertIs(draft.evens(), True)
                    self.assertIs(evens_more(draft.rule), True)
                    self.assertEqual(certify_evening(draft.rule)[0][0], "more")
                    for at in chosen:
                        draft.undo()
                        self.assertIs(draft.evens(), False)
            self.assertIs(draft.evens(), accepts(("more", str(one), str(plain())), ()))
            self.assertEqual((draft.rule, draft.changes), (one, 0))

    def test_wishes(self):
        chance = random.Random(119)
        held_by = {}
        for one, other in some_rules(chance, 200):
            if chance.random() < 0.5:
                one, other = other, one
            book = Book()
            book["one"], book["other"] = one, other
            kinds = ((0, 3), (7, 10 ** 72), (10 ** 30, 1))
            sum_taken = taken(one, Purse(kinds))
            wishes = {
                ("evens", "one"): Draft(one).evens(),
                ("more", "one", "other"): keeps_order(other) and evens_more(one, other),
                ("more", "other", "one"): keeps_order(one) and evens_more(other, one),
                ("leaves", "one", "other"): above(other, one) == (),
                ("takes", "one", kinds, sum_taken): True,
                ("takes", "one", kinds, sum_taken + 1): False,
            }
            for wish, holds in wishes.items():
                before = book.wishes
                if holds:
                    book.wish(wish)
                else:
                    with self.assertRaises(Broken) as caught:
                        book.wish(wish)
                    self.assertEqual((caught.exception.index, book.wishes), (len(before), before))
                held_by[wish[0], holds] = held_by.get((wish[0], holds), 0) + 1
                if wish[0] == "more":
                    texts = [str(book[name]) for name in wish[1:]]
                    self.assertIs(accepts(("more", *texts), ()), holds)
        self.assertTrue(all(held_by.get((word, holds), 0) > 10 for word in ("evens", "more", "leaves", "takes")
                            for holds in (True, False)), held_by)

    def test_a_book_of_drafts(self):
        """A rule that a draft tries is put into a book only where all wishes hold."""
        book = Book()
        book["dues"] = Rule(((0, 0, 100), (1000, 100000, 60)))
        book.wish(("evens", "dues"))
        book.wish(("takes", "dues", ((500, 10), (3000, 1)), 80000))
        draft = Draft(book["dues"])
        draft.turn(1, 100000, 70)
        self.assertTrue(draft.evens())
        with self.assertRaises(Broken) as caught:
            book["dues"] = draft.rule
        self.assertEqual(caught.exception.index, 1)
        self.assertEqual(draft.tried(lambda given: given.undo() or given.rule), book["dues"])
        draft.turn(1, 100000, 50)
        book["dues"] = draft.rule
        self.assertEqual((book["dues"].left(2000), book.changes), (150000, 4))


class Equal(unittest.TestCase):
    def test_objects_are_never_equal_to_those_of_another_class(self):
        rule, purse = plain(), Purse(((0, 1),))
        things = [rule, purse, Draft(rule), Book(), Draft(rule).trial(), Book().trial(), str(rule), rule.bands,
                  str(purse), purse.kinds, None, 0]
        for at, one in enumerate(things):
            for other_at, other in enumerate(things):
                self.assertIs(one == other, at == other_at)
                self.assertIs(one != other, at != other_at)

    def test_equal_calls_give_equal_results(self):
        chance = random.Random(120)
        for one, other in some_rules(chance, 60):
            again = Rule(one.bands), Rule.read(str(other))
            for action in (evens_more, breaking, windows, contrary, least_lump, views, evens_differences, leaves_more,
                           above, certify_evening):
                self.assertEqual(action(one, other), action(*again))


if __name__ == "__main__":
    unittest.main()

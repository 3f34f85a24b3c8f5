import random
import unittest

import onebyone
from evenedshares.books import Book
from evenedshares.errors import (
    Broken, InvalidIndex, InvalidName, InvalidWish, NotARule, NothingToUndo, OrderTurned, UnknownName)
from evenedshares.rules import Rule, keeps_order, plain
from refusing import Refusing
from strange import INTEGERS, ODD, STRINGS, TUPLES, Agreeable, Touchy

PLAIN = ((0, 0, 100),)
DUES = Rule(((0, 0, 100), (1000, 100000, 60)))
HELP = Rule(((0, 50000, 20), (1000, 69980, 80)))
TURNED = Rule(((0, 5, 0), (3, 4, 1)))
NOTHING = Rule(((0, 0, 0),))
NAMES = ("a", "z", "dues", "abcdefgh", "a1234567", "z0", "evens", "aa")
NO_NAMES = ("", "abcdefghi", "A", "Dues", "1a", "0", "_a", "a_b", "a b", " a", "a ", "a\n", "a.b", "a-b", "\n", "~",
            "aB", "a1234567 ", "evens!")
# None of these can be looked up in a dict, and some of them cannot be compared.
UNKEYED = ([], {}, set(), ["dues"], ([],), ("dues", {}), Agreeable(), Touchy(), (Touchy(),))


def state(book):
    return book.names, [book[name].bands for name in book.names], book.wishes, book.changes, len(book)


class Checks(Refusing):
    def fails(self, book, call, error, **told):
        """The call raises this, and nothing has changed."""
        before = state(book)
        self.refused(call, error, **told)
        self.assertEqual(state(book), before)

    def put(self, book, name, rule):
        book[name] = rule


def started():
    book = Book()
    book["dues"] = DUES
    book["help"] = HELP
    book["plain"] = plain()
    return book


class Putting(Checks):
    def test_examples_of_the_interface(self):
        book = Book()
        book["dues"] = DUES
        book.wish(("evens", "dues"))
        self.assertEqual([book.names, book.changes, len(book), book["dues"] == DUES], [("dues",), 2, 1, True])
        self.fails(book, lambda: book.wish(("takes", "dues", ((500, 10), (3000, 1)), 80001)), Broken, index=1)
        book.wish(("takes", "dues", ((500, 10), (3000, 1)), 80000))

    def test_a_new_book(self):
        book = Book()
        self.assertEqual((book.names, book.wishes, book.changes, len(book)), ((), (), 0, 0))
        # Even an empty one is true.
        self.assertIs(bool(book), True)
        self.assertIs(bool(book.trial()), True)

    def test_rules_under_names(self):
        book = Book()
        for at, name in enumerate(NAMES):
            rule = Rule(((0, at, 0),))
            book[name] = rule
            self.assertEqual(book[name], rule)
            self.assertEqual((len(book), book.changes), (at + 1, at + 1))
            self.assertIs(name in book, True)
        self.assertEqual(book.names, tuple(sorted(NAMES)))
        self.assertEqual([book[name].bands[0][1] for name in NAMES], list(range(8)))

    def test_names_are_ascending_as_strings_are(self):
        book = Book()
        for name in ("b", "a9", "a", "a10", "z", "aa"):
            book[name] = DUES
        self.assertEqual(book.names, ("a", "a10", "a9", "aa", "b", "z"))
        self.assertIs(type(book.names), tuple)

    def test_in_the_place_of_what_is_there(self):
        book = started()
        book["dues"] = HELP
        self.assertEqual((book["dues"], book.names, book.changes, len(book)), (HELP, ("dues", "help", "plain"), 4, 3))
        # The same once more is a change, too.
        book["dues"] = HELP
        self.assertEqual(book.changes, 5)
        book.undo()
        self.assertEqual(book["dues"], HELP)
        book.undo()
        self.assertEqual(book["dues"], DUES)

    def test_no_name(self):
        book = started()
        for value in (*NO_NAMES, *ODD, *INTEGERS, *TUPLES, *UNKEYED, DUES, b"dues"):
            with self.subTest(value=repr(type(value))):
                self.fails(book, lambda: self.put(book, value, DUES), InvalidName, given=value)
                self.fails(book, lambda: self.put(book, value, "rule"), InvalidName, given=value)

    def test_no_rule(self):
        book = started()
        for value in (*ODD, *STRINGS, *INTEGERS, *TUPLES, *UNKEYED, Rule, DUES.bands, str(DUES)):
            for name in ("dues", "new"):
                self.fails(book, lambda: self.put(book, name, value), NotARule, given=value)

    def test_a_name_the_book_does_not_have(self):
        book = started()
        for value in (*NO_NAMES, *ODD, *INTEGERS, *TUPLES, *UNKEYED, "Dues", "due", "new", DUES, slice(1, 2)):
            with self.subTest(value=repr(type(value))):
                self.fails(book, lambda: book[value], UnknownName, given=value)
                self.assertIs(value in book, False)
        for name in ("dues", "help", "plain"):
            self.assertIs(name in book, True)
            self.assertIs(name not in book, False)

    def test_a_book_is_equal_to_itself_alone(self):
        book, other = Book(), Book()
        self.assertIs(book == book, True)
        self.assertIs(book != book, False)
        for value in (other, (), {}, Agreeable(), *ODD, *STRINGS, *TUPLES):
            self.assertIs(book == value, False)
            self.assertIs(book != value, True)

    def test_properties_cannot_be_set(self):
        book = started()
        for name in ("names", "wishes", "changes"):
            with self.assertRaises(AttributeError):
                setattr(book, name, ())

    def test_two_books_have_nothing_in_common(self):
        one, other = Book(), Book()
        one["a"] = DUES
        one.wish(("evens", "a"))
        self.assertEqual(state(other), ((), [], (), 0, 0))


class Wishing(Checks):
    def test_wishes_are_kept_as_they_were_passed(self):
        book = started()
        wishes = (("evens", "dues"), ("more", "dues", "plain"), ("leaves", "plain", "dues"),
                  ("takes", "dues", ((0, 2), (3000, 1)), -5), ("evens", "dues"), ("leaves", "help", "help"))
        for at, wish in enumerate(wishes):
            self.assertIsNone(book.wish(wish) if at % 2 else book.wish(wish=wish))
            self.assertIs(book.wishes[at], wish)
            self.assertEqual((book.changes, len(book.wishes)), (4 + at, at + 1))
        self.assertEqual(book.wishes, wishes)
        self.assertIs(type(book.wishes), tuple)

    def no_wish(self, value, book=None):
        book = started() if book is None else book
        self.fails(book, lambda: book.wish(value), InvalidWish, given=value)
        self.fails(book, lambda: book.wish(wish=value), InvalidWish, given=value)

    def test_no_tuple_of_a_form(self):
        for value in (*ODD, *STRINGS, *INTEGERS, *TUPLES, *UNKEYED, ["evens", "dues"], ("evens",), "evens", DUES,
                      ("evens", "dues", "dues"), ("more", "dues"), ("more", "dues", "help", "plain"),
                      ("leaves", "dues"), ("leaves", "dues", "help", 1), ("takes", "dues", ((0, 1),)),
                      ("takes", "dues", ((0, 1),), 0, 0), ("takes", "dues"), ("takes",), ("more",), ("leaves",),
                      ("more", "dues", ("help",)), (("evens", "dues"),), ("evens", ("dues",)), ("evens", ["dues"])):
            self.no_wish(value)

    def test_other_words(self):
        for word in ("Evens", "even", "evens ", "less", "more\n", "take", "left", "", "dues", *ODD, *INTEGERS, *TUPLES,
                     *UNKEYED, b"evens"):
            for rest in (("dues",), ("dues", "plain"), ("dues", ((0, 1),), 0)):
                self.no_wish((word, *rest))

    def test_no_names(self):
        for value in (*NO_NAMES, *ODD, *INTEGERS, *TUPLES, *UNKEYED, DUES):
            for wish in (("evens", value), ("more", value, "plain"), ("more", "dues", value),
                         ("leaves", value, "plain"), ("leaves", "plain", value), ("takes", value, ((0, 1),), 0)):
                self.no_wish(wish)

    def test_no_kinds(self):
        far = 10 ** 30
        for value in (*ODD, *STRINGS, *INTEGERS, *TUPLES, *UNKEYED, [(0, 1)], ((0, 1), (0, 1)), ((1, 1), (0, 1)),
                      ((0, 0),), ((-1, 1),), ((0, 10 ** 72 + 1),), ((0, True),), ((False, 1),), ((0, 1, 1),), ([0, 1],),
                      ((far + 1, 1),), ((0, 1), (far + 1, 1)), ((10 ** 36, 1),), tuple((at, 1) for at in range(31))):
            self.no_wish(("takes", "dues", value, -10 ** 79))
        book = started()
        book.wish(("takes", "dues", ((0, 1), (far, 10 ** 72)), 0))
        book.wish(("takes", "dues", tuple((at, 1) for at in range(30)), 0))

    def test_no_integer(self):
        for value in (*ODD, *STRINGS, *TUPLES, *UNKEYED):
            self.no_wish(("takes", "dues", ((0, 1),), value))
        # Any integer is one.
        book = started()
        for number in (-10 ** 79, -1, 0):
            book.wish(("takes", "dues", ((0, 1),), number))

    def test_unknown_names(self):
        book = started()
        for wish, name in ((("evens", "new"), "new"), (("more", "new", "plain"), "new"),
                           (("more", "dues", "new"), "new"),
                           (("leaves", "new", "newer"), "new"), (("leaves", "plain", "newer"), "newer"),
                           (("takes", "new", ((0, 1),), 10 ** 79), "new"), (("more", "b", "a"), "b"),
                           # The wish itself would not hold.
                           (("more", "help", "new"), "new"), (("leaves", "dues", "evens"), "evens")):
            self.fails(book, lambda: book.wish(wish), UnknownName, given=name)
            self.fails(book, lambda: book.wish(wish=wish), UnknownName, given=name)
        empty = Book()
        self.fails(empty, lambda: empty.wish(("evens", "dues")), UnknownName, given="dues")
        self.fails(empty, lambda: empty.wish(("evens", "Dues")), InvalidWish, given=("evens", "Dues"))

    def test_a_wish_that_does_not_hold(self):
        book = started()
        book["turned"] = TURNED
        wrong = (("evens", "help"), ("evens", "turned"), ("more", "help", "plain"), ("more", "plain", "dues"),
                 ("leaves", "dues", "plain"), ("leaves", "dues", "help"), ("leaves", "help", "dues"),
                 ("takes", "plain", ((7, 1),), 1), ("takes", "dues", ((3000, 10 ** 72),), 80000 * 10 ** 72 + 1))
        for wish in wrong:
            self.fails(book, lambda: book.wish(wish), Broken, index=0)
        book.wish(("evens", "dues"))
        book.wish(("leaves", "help", "help"))
        for wish in wrong:
            self.fails(book, lambda: book.wish(wish=wish), Broken, index=2)

    def test_more_where_the_other_rule_turns_order(self):
        book = started()
        book["turned"] = TURNED
        book["none"] = NOTHING
        for name in ("turned", "none", "dues", "plain"):
            self.fails(book, lambda: book.wish(("more", name, "turned")), Broken, index=0)
        book.wish(("more", "none", "dues"))
        self.fails(book, lambda: self.put(book, "dues", TURNED), Broken, index=0)
        # No wish but "more" asks for order.
        book.wish(("leaves", "turned", "turned"))
        book.wish(("takes", "turned", ((3, 1),), 296))

    def test_takes_has_no_limit_of_counts(self):
        book = started()
        book["none"] = NOTHING
        thirty = tuple((at, 10 ** 72) for at in range(30))
        whole = 100 * sum(range(30)) * 10 ** 72
        self.fails(book, lambda: book.wish(("takes", "none", thirty, whole + 1)), Broken, index=0)
        book.wish(("takes", "none", thirty, whole))
        book.wish(("takes", "help", ((0, 10 ** 72), (1, 10 ** 72)), -50000 * 10 ** 72 - 49920 * 10 ** 72))


class Keeping(Checks):
    def test_putting_a_rule_asks_all_wishes(self):
        book = started()
        book.wish(("leaves", "plain", "dues"))
        book.wish(("more", "dues", "plain"))
        book.wish(("takes", "dues", ((3000, 1),), 80000))
        book.wish(("evens", "dues"))
        # The first one that does not hold is told.
        self.fails(book, lambda: self.put(book, "dues", HELP), Broken, index=0)
        self.fails(book, lambda: self.put(book, "plain", TURNED), Broken, index=0)
        self.fails(book, lambda: self.put(book, "dues", Rule(((0, 0, 0), (2000, 1, 100)))), Broken, index=1)
        self.fails(book, lambda: self.put(book, "dues", Rule(((0, 0, 90),))), Broken, index=2)
        book["dues"] = Rule(((0, 0, 70),))
        self.fails(book, lambda: self.put(book, "plain", DUES), Broken, index=0)
        # Wishes do not hang on rules that are not among them.
        book["help"] = TURNED
        book["new"] = TURNED

    def test_lifting(self):
        book = started()
        wishes = [("evens", "dues"), ("leaves", "plain", "dues"), ("more", "dues", "plain"), ("evens", "plain")]
        for wish in wishes:
            book.wish(wish)
        self.assertIsNone(book.lift(1))
        self.assertEqual(book.wishes, (wishes[0], wishes[2], wishes[3]))
        self.assertIsNone(book.lift(index=2))
        self.assertEqual(book.wishes, (wishes[0], wishes[2]))
        book.lift(0)
        book.lift(0)
        self.assertEqual((book.wishes, book.changes), ((), 11))
        # What was lifted does not bind any more.
        book["dues"] = HELP
        self.fails(book, lambda: book.lift(0), InvalidIndex, given=0)
        book.undo()
        book.undo()
        self.assertEqual(book.wishes, (wishes[2],))

    def test_no_index(self):
        book = started()
        book.wish(("evens", "dues"))
        book.wish(("evens", "plain"))
        for value in (*ODD, *STRINGS, *TUPLES, *UNKEYED, -1, 2, 3, 10 ** 79, -10 ** 79, "dues"):
            self.fails(book, lambda: book.lift(value), InvalidIndex, given=value)
            self.fails(book, lambda: book.lift(index=value), InvalidIndex, given=value)
        empty = Book()
        self.fails(empty, lambda: empty.lift(0), InvalidIndex, given=0)

    def test_a_wish_more_than_once(self):
        book = started()
        for at in range(3):
            book.wish(("evens", "dues"))
        self.assertEqual(book.wishes, (("evens", "dues"),) * 3)
        book.lift(1)
        self.fails(book, lambda: self.put(book, "dues", HELP), Broken, index=0)
        book.lift(0)
        book.lift(0)
        book["dues"] = HELP


class Undoing(Checks):
    def test_nothing_to_undo(self):
        book = Book()
        self.fails(book, book.undo, NothingToUndo)
        book["a"] = DUES
        self.assertIsNone(book.undo())
        self.assertIs("a" in book, False)
        self.fails(book, book.undo, NothingToUndo)

    def test_each_change_is_taken_back(self):
        book = Book()
        states = [state(book)]
        for change in (lambda: self.put(book, "a", DUES), lambda: self.put(book, "b", plain()),
                       lambda: book.wish(("evens", "a")), lambda: book.wish(("leaves", "b", "a")),
                       lambda: self.put(book, "a", NOTHING), lambda: book.lift(0), lambda: self.put(book, "a", NOTHING),
                       lambda: book.wish(("evens", "b")), lambda: book.lift(1), lambda: book.lift(0)):
            change()
            states.append(state(book))
            self.assertEqual(book.changes, len(states) - 1)
        while len(states) > 1:
            states.pop()
            book.undo()
            self.assertEqual(state(book), states[-1])
        self.fails(book, book.undo, NothingToUndo)

    def test_what_fails_is_no_change(self):
        book = started()
        book.wish(("evens", "dues"))
        for call in (lambda: self.put(book, "A", DUES), lambda: self.put(book, "dues", HELP), lambda: book.lift(1),
                     lambda: book.wish(("evens", "help")), lambda: book.wish(None)):
            with self.assertRaises((InvalidName, Broken, InvalidIndex, InvalidWish)):
                call()
        book.undo()
        self.assertEqual((book.wishes, book.changes), ((), 3))


class Random(Checks):
    """Many changes that chance makes, beside a list of all states and the wishes reckoned one by one."""

    def test_books_of_small_rules(self):
        chance = random.Random(81)
        broken = done = 0
        for _ in range(40):
            book = Book()
            rules, wishes, states = {}, [], [({}, [])]
            for _ in range(40):
                rules, wishes = dict(states[-1][0]), list(states[-1][1])
                call = self.a_change(chance, book, rules, wishes)
                first = next((at for at, wish in enumerate(wishes) if not self.holds(wish, rules)), None)
                if first is not None:
                    self.fails(book, call, Broken, index=first)
                    broken += 1
                elif call == book.undo:
                    if len(states) > 1:
                        states.pop()
                        book.undo()
                else:
                    call()
                    states.append((rules, wishes))
                    done += 1
                self.same(book, *states[-1], len(states) - 1)
        self.assertTrue(broken > 100 and done > 400, (broken, done))

    def same(self, book, rules, wishes, changes):
        self.assertEqual({name: book[name].bands for name in book.names}, rules)
        self.assertEqual((book.wishes, book.changes, len(book)), (tuple(wishes), changes, len(rules)))
        self.assertTrue(all(self.holds(wish, rules) for wish in book.wishes))

    def a_change(self, chance, book, rules, wishes):
        """Call, and the rules and wishes as they would be behind it."""
        kind = chance.randint(0, 5)
        if kind <= 1 or not rules:
            name = chance.choice("abc")
            bands = onebyone.some_bands(chance, 2, 4, 20, 9, ordered=chance.random() < 0.8)
            rules[name] = bands
            return lambda: self.put(book, name, Rule(bands))
        if kind <= 3:
            names = list(rules)
            one, other = chance.choice(names), chance.choice(names)
            amounts = sorted(chance.sample(range(6), 2))
            wish = chance.choice((("evens", one), ("more", one, other), ("leaves", one, other),
                                  ("takes", one, tuple((amount, chance.randint(1, 3)) for amount in amounts),
                                   chance.randint(-50, 1500))))
            wishes.append(wish)
            return lambda: book.wish(wish)
        if kind == 4 and wishes:
            at = chance.randrange(len(wishes))
            del wishes[at]
            return lambda: book.lift(at)
        return book.undo

    def holds(self, wish, rules):
        word, bands = wish[0], rules[wish[1]]
        if word == "evens":
            return onebyone.breaking(bands, PLAIN, 12) is None
        if word == "takes":
            return onebyone.taken(bands, wish[2]) >= wish[3]
        others = rules[wish[2]]
        if word == "leaves":
            # Steps are at most 9, and values at most 20 + 9 * 4.
            return all(onebyone.left(bands, income) >= onebyone.left(others, income) for income in range(80))
        kept = all(onebyone.left(others, income) <= onebyone.left(others, income + 1) for income in range(12))
        return kept and onebyone.breaking(bands, others, 12) is None


class Halt(BaseException):
    """Not even an Exception."""


class Trials(Checks):
    def test_a_call_alone_changes_nothing(self):
        book = started()
        before = state(book)
        trial = book.trial()
        self.assertEqual(state(book), before)
        self.assertIs(trial == book.trial(), False)

    def test_what_was_done_stays(self):
        book = started()
        with book.trial() as found:
            self.assertIs(found, book)
            book.wish(("evens", "dues"))
            found["new"] = HELP
        self.assertEqual(book.names, ("dues", "help", "new", "plain"))
        self.assertEqual((book.wishes, book.changes), ((("evens", "dues"),), 5))
        with book.trial():
            book.undo()
            book.undo()
        self.assertEqual((book.wishes, book.changes), ((), 3))

    def test_what_was_done_stays_where_the_block_is_left_early(self):
        book = started()

        def leave():
            for at in range(3):
                with book.trial():
                    book["new"] = Rule(((0, at, 0),))
                    if at == 0:
                        continue
                    if at == 1:
                        break
            with book.trial():
                book["newer"] = HELP
                return book["new"].bands

        self.assertEqual(leave(), ((0, 1, 0),))
        self.assertEqual((book.names, book.changes), (("dues", "help", "new", "newer", "plain"), 6))

    def test_an_exception_puts_it_back(self):
        for error in (ValueError("x"), KeyError(3), Halt(), OrderTurned(3), NothingToUndo(), StopIteration()):
            book = started()
            book.wish(("evens", "dues"))
            before = state(book)
            with self.assertRaises(type(error)) as caught:
                with book.trial():
                    book.undo()
                    book.undo()
                    book["new"] = HELP
                    book.wish(("leaves", "new", "new"))
                    raise error
            self.assertIs(caught.exception, error)
            self.assertEqual(state(book), before)
            # Changes from before the block can be taken back.
            for _ in range(4):
                book.undo()
            self.fails(book, book.undo, NothingToUndo)

    def test_errors_of_the_book_within(self):
        book = started()
        before = state(book)
        with self.assertRaises(Broken):
            with book.trial():
                book.wish(("evens", "dues"))
                book["dues"] = HELP
        self.assertEqual(state(book), before)
        # Those that are taken within the block do not end it.
        with book.trial():
            book.wish(("evens", "dues"))
            self.fails(book, lambda: self.put(book, "dues", HELP), Broken, index=0)
        self.assertEqual(book.changes, 4)

    def test_trials_within_trials(self):
        book = started()
        with book.trial():
            book["new"] = HELP
            middle = state(book)
            with self.assertRaises(ValueError):
                with book.trial():
                    book.undo()
                    with book.trial():
                        book.undo()
                        book.wish(("evens", "dues"))
                    self.assertEqual(book.changes, 3)
                    raise ValueError
            self.assertEqual(state(book), middle)
            with book.trial():
                book.wish(("evens", "dues"))
        self.assertEqual(book.changes, 5)
        before = state(book)
        with self.assertRaises(ValueError):
            with book.trial():
                with book.trial():
                    book.undo()
                self.assertEqual(book.changes, 4)
                raise ValueError
        self.assertEqual(state(book), before)

    def test_rows_around_that_take_errors_of_those_within(self):
        book = started()
        with book.trial():
            book.wish(("evens", "dues"))
            try:
                with book.trial():
                    book["new"] = HELP
                    book.wish(("evens", "new"))
            except Broken as error:
                self.assertEqual(error.index, 1)
            self.assertEqual((book.names, book.changes), (("dues", "help", "plain"), 4))
            book["newer"] = HELP
        self.assertEqual((book.names, book.changes), (("dues", "help", "newer", "plain"), 5))

    def test_the_state_when_the_block_begins_counts(self):
        book = started()
        trial = book.trial()
        book["new"] = HELP
        before = state(book)
        with self.assertRaises(ValueError):
            with trial:
                book.undo()
                book.undo()
                raise ValueError
        self.assertEqual(state(book), before)

    def test_the_same_trial_again_and_within_itself(self):
        book = started()
        trial = book.trial()
        with trial:
            book["new"] = HELP
            with self.assertRaises(ValueError):
                with trial as found:
                    self.assertIs(found, book)
                    book.undo()
                    book.undo()
                    raise ValueError
            self.assertEqual(book.changes, 4)
        before = state(book)
        with self.assertRaises(ValueError):
            with trial:
                book["newer"] = HELP
                with trial:
                    book["newest"] = HELP
                raise ValueError
        self.assertEqual(state(book), before)


class Tried(Checks):
    def test_what_the_action_returns(self):
        for at, value in enumerate((None, 7, "word", (), [3], ODD[0], Agreeable())):
            book = started()

            def action(given):
                self.assertIs(given, book)
                given[f"new{at}"] = HELP
                return value

            self.assertIs(book.tried(action) if at % 2 else book.tried(action=action), value)
            self.assertEqual((f"new{at}" in book, book.changes), (True, 4))

    def test_errors_are_passed_on(self):
        for error in (ValueError("x"), Halt(), Broken(3), StopIteration(4)):
            book = started()
            before = state(book)

            def action(given):
                given.undo()
                book["new"] = HELP
                raise error

            with self.assertRaises(type(error)) as caught:
                book.tried(action)
            self.assertIs(caught.exception, error)
            self.assertEqual(state(book), before)

    def test_tries_within_tries(self):
        book = started()

        def inner(given):
            given["new"] = HELP
            given.wish(("evens", "new"))

        def outer(given):
            given.wish(("evens", "dues"))
            self.fails(given, lambda: given.tried(inner), Broken, index=1)
            return given.names

        self.assertEqual(book.tried(outer), ("dues", "help", "plain"))
        self.assertEqual(book.changes, 4)

    def test_what_cannot_be_called(self):
        book = started()
        with self.assertRaises(TypeError):
            book.tried(None)
        self.assertEqual(book.changes, 3)


class Orders(Checks):
    def test_a_rule_that_turns_order_breaks_no_other_wish(self):
        book = started()
        book["turned"] = TURNED
        self.assertIs(keeps_order(TURNED), False)
        book.wish(("leaves", "help", "turned"))
        book.wish(("takes", "turned", ((0, 1), (3, 1)), 291))
        self.fails(book, lambda: book.wish(("more", "turned", "plain")), Broken, index=2)
        self.fails(book, lambda: book.wish(("more", "plain", "turned")), Broken, index=2)


if __name__ == "__main__":
    unittest.main()

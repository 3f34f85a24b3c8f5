import itertools
import random
import unittest

import onebyone
from evenedshares.drafts import Draft
from evenedshares.errors import BelowNothing, InvalidIndex, InvalidNumber, NotARule, NothingToUndo, TooMuch
from evenedshares.evening import evens_more
from evenedshares.rules import Rule, plain
from refusing import Refusing
from strange import INTEGERS, ODD, STRINGS, TUPLES, Agreeable

PLAIN = ((0, 0, 100),)
DUES = ((0, 0, 100), (1000, 100000, 60))
HELP = ((0, 50000, 20), (1000, 69980, 80))
THREE = ((0, 10, 0), (5, 20, -2), (9, 30, 1))
EIGHT = tuple((10 * at, 1000 * at, 100 - at) for at in range(8))
FAR = 10 ** 29
MOST = 10 ** 32


class Checks(Refusing):
    def fails(self, draft, call, error, **told):
        """The call raises this, and nothing has changed."""
        rule, changes = draft.rule, draft.changes
        self.refused(call, error, **told)
        self.assertEqual((draft.rule, draft.changes), (rule, changes))

    def is_at(self, draft, bands, changes):
        self.assertIs(type(draft.rule), Rule)
        self.assertEqual((draft.rule.bands, draft.changes), (bands, changes))
        self.assertIs(type(draft.changes), int)
        self.assertIs(draft.evens(), evens_more(Rule(bands)))


class Making(Checks):
    def test_examples_of_the_interface(self):
        draft = Draft(Rule(HELP))
        draft.turn(1, 70000, 40)
        self.assertEqual([draft.evens(), draft.changes, draft.rule.bands],
                         [True, 1, ((0, 50000, 20), (1000, 70000, 40))])
        draft.cut(500)
        self.assertEqual([draft.rule.bands[1], draft.evens(), draft.merge(2), draft.rule.bands],
                         [(500, 60000, 20), True, None, ((0, 50000, 20), (500, 60000, 20))])
        self.fails(draft, lambda: draft.turn(1, 0, -1), BelowNothing, given=1)

    def test_a_new_draft(self):
        for bands in (PLAIN, DUES, HELP, THREE, EIGHT):
            for draft in (Draft(Rule(bands)), Draft(rule=Rule(bands))):
                self.is_at(draft, bands, 0)

    def test_no_rule(self):
        for value in (*ODD, *STRINGS, *INTEGERS, *TUPLES, Rule, HELP, str(plain()), Draft(plain())):
            with self.subTest(value=value):
                self.refused(lambda: Draft(value), NotARule, given=value)
                self.refused(lambda: Draft(rule=value), NotARule, given=value)

    def test_truth(self):
        self.assertIs(bool(Draft(Rule(((0, 0, 0),)))), True)
        self.assertIs(bool(Draft(plain()).trial()), True)

    def test_a_draft_is_equal_to_itself_alone(self):
        rule = Rule(DUES)
        draft, other = Draft(rule), Draft(rule)
        self.assertIs(draft == draft, True)
        self.assertIs(draft != draft, False)
        for value in (other, rule, DUES, str(rule), Agreeable(), *ODD, *STRINGS, *TUPLES):
            self.assertIs(draft == value, False)
            self.assertIs(draft != value, True)
        draft.turn(0, 0, 0)
        draft.undo()
        self.assertIs(draft == other, False)
        self.assertIs(draft == draft, True)

    def test_properties_cannot_be_set(self):
        draft = Draft(Rule(DUES))
        for name in ("rule", "changes"):
            with self.assertRaises(AttributeError):
                setattr(draft, name, 3)
        self.is_at(draft, DUES, 0)

    def test_the_rule_that_was_passed_stays(self):
        rule = Rule(DUES)
        one, other = Draft(rule), Draft(rule)
        one.turn(0, 5, 0)
        self.assertEqual(rule.bands, DUES)
        self.is_at(other, DUES, 0)


class Turning(Checks):
    def test_a_band_gets_a_value_and_a_step(self):
        draft = Draft(Rule(THREE))
        self.assertIsNone(draft.turn(0, 3, 7))
        self.is_at(draft, ((0, 3, 7), (5, 20, -2), (9, 30, 1)), 1)
        self.assertIsNone(draft.turn(step=0, value=11, index=2))
        self.is_at(draft, ((0, 3, 7), (5, 20, -2), (9, 11, 0)), 2)
        self.assertIsNone(draft.turn(1, value=8, step=-2))
        self.is_at(draft, ((0, 3, 7), (5, 8, -2), (9, 11, 0)), 3)

    def test_nothing_different_is_a_change(self):
        draft = Draft(Rule(DUES))
        draft.turn(1, 100000, 60)
        self.is_at(draft, DUES, 1)
        draft.undo()
        self.is_at(draft, DUES, 0)

    def test_numbers_at_their_bounds(self):
        draft = Draft(Rule(THREE))
        draft.turn(1, MOST, -1000)
        draft.turn(2, MOST, 1000)
        draft.turn(0, 0, 0)
        self.is_at(draft, ((0, 0, 0), (5, MOST, -1000), (9, MOST, 1000)), 3)

    def test_no_index(self):
        draft = Draft(Rule(THREE))
        for value in (*ODD, *STRINGS, *TUPLES, -1, 3, 8, 10 ** 79, -10 ** 79):
            self.fails(draft, lambda: draft.turn(value, 0, 0), InvalidIndex, given=value)
            self.fails(draft, lambda: draft.turn(step="step", value="value", index=value), InvalidIndex, given=value)
        eight = Draft(Rule(EIGHT))
        self.fails(eight, lambda: eight.turn(8, 0, 0), InvalidIndex, given=8)
        eight.turn(7, 0, 0)

    def test_no_value(self):
        draft = Draft(Rule(THREE))
        for value in (*ODD, *STRINGS, *TUPLES, -1, MOST + 1, 10 ** 79, -10 ** 79):
            self.fails(draft, lambda: draft.turn(0, value, 0), InvalidNumber, given=value)
            self.fails(draft, lambda: draft.turn(step="step", value=value, index=2), InvalidNumber, given=value)

    def test_no_step(self):
        draft = Draft(Rule(THREE))
        for value in (*ODD, *STRINGS, *TUPLES, -1001, 1001, 10 ** 79, -10 ** 79):
            self.fails(draft, lambda: draft.turn(0, 0, value), InvalidNumber, given=value)
            self.fails(draft, lambda: draft.turn(step=value, value=MOST, index=2), InvalidNumber, given=value)

    def test_below_nothing(self):
        draft = Draft(Rule(THREE))
        # Five incomes, from 0 to 4.
        self.fails(draft, lambda: draft.turn(0, 7, -2), BelowNothing, given=0)
        self.fails(draft, lambda: draft.turn(step=-2, value=7, index=0), BelowNothing, given=0)
        self.fails(draft, lambda: draft.turn(1, 5, -2), BelowNothing, given=1)
        self.fails(draft, lambda: draft.turn(2, MOST, -1), BelowNothing, given=2)
        draft.turn(0, 8, -2)
        draft.turn(1, 6, -2)
        self.is_at(draft, ((0, 8, -2), (5, 6, -2), (9, 30, 1)), 2)
        far = Draft(Rule(((0, 0, 0), (FAR - 10 ** 28, 0, 0), (FAR, 0, 0))))
        self.fails(far, lambda: far.turn(1, 10 ** 31 - 1001, -1000), BelowNothing, given=1)
        far.turn(1, 10 ** 31 - 1000, -1000)

    def test_below_nothing_is_last(self):
        draft = Draft(Rule(THREE))
        self.fails(draft, lambda: draft.turn(3, -1, -1001), InvalidIndex, given=3)
        self.fails(draft, lambda: draft.turn(2, -1, -1001), InvalidNumber, given=-1)
        self.fails(draft, lambda: draft.turn(2, 0, -1001), InvalidNumber, given=-1001)
        self.fails(draft, lambda: draft.turn(2, 0, -1000), BelowNothing, given=2)


class Cutting(Checks):
    def test_a_band_begins_and_nothing_else_is_different(self):
        for start in (1, 2, 4, 6, 7, 8, 10, 11, 40):
            draft = Draft(Rule(THREE))
            self.assertIsNone(draft.cut(start) if start % 2 else draft.cut(start=start))
            self.assertEqual([band[0] for band in draft.rule.bands], sorted([0, 5, 9, start]))
            self.assertEqual(len(draft.rule), 4)
            for income in range(60):
                self.assertEqual(draft.rule.left(income), onebyone.left(THREE, income))
            # The new band goes on with the step of the one it was cut from.
            self.assertEqual(onebyone.left(draft.rule.bands, FAR), onebyone.left(THREE, FAR))
            steps = {band[0]: band[2] for band in draft.rule.bands}
            self.assertEqual(steps[start], 0 if start < 5 else -2 if start < 9 else 1)

    def test_cut_and_put_together_again(self):
        for bands in (PLAIN, DUES, HELP, THREE, EIGHT[:7]):
            for start in (3, 77, 500, 1001, FAR):
                draft = Draft(Rule(bands))
                draft.cut(start)
                self.assertIs(draft.evens(), evens_more(Rule(bands)))
                draft.merge([band[0] for band in draft.rule.bands].index(start))
                self.is_at(draft, bands, 2)

    def test_no_start(self):
        draft = Draft(Rule(THREE))
        for value in (*ODD, *STRINGS, *TUPLES, 0, -1, FAR + 1, 10 ** 79, -10 ** 79):
            self.fails(draft, lambda: draft.cut(value), InvalidNumber, given=value)
            self.fails(draft, lambda: draft.cut(start=value), InvalidNumber, given=value)

    def test_a_band_begins_there_already(self):
        draft = Draft(Rule(THREE))
        for start in (5, 9):
            self.fails(draft, lambda: draft.cut(start), InvalidNumber, given=start)
        draft.cut(7)
        self.fails(draft, lambda: draft.cut(7), InvalidNumber, given=7)

    def test_starts_at_their_bounds(self):
        draft = Draft(Rule(THREE))
        draft.cut(1)
        draft.cut(FAR)
        self.is_at(draft, ((0, 10, 0), (1, 10, 0), (5, 20, -2), (9, 30, 1), (FAR, 30 + FAR - 9, 1)), 2)

    def test_eight_bands(self):
        draft = Draft(Rule(EIGHT))
        for start in (1, 15, 71, FAR):
            self.fails(draft, lambda: draft.cut(start), TooMuch, given=start)
        self.fails(draft, lambda: draft.cut(70), InvalidNumber, given=70)
        self.fails(draft, lambda: draft.cut(0), InvalidNumber, given=0)
        draft.merge(3)
        draft.cut(71)
        self.assertEqual(draft.rule.bands, (*EIGHT[:3], *EIGHT[4:], (71, 7000 + 93, 93)))
        self.fails(draft, lambda: draft.cut(30), TooMuch, given=30)

    def test_more_left_than_a_band_may_tell(self):
        draft = Draft(Rule(((0, MOST - 1000, 100),)))
        self.fails(draft, lambda: draft.cut(11), TooMuch, given=11)
        self.fails(draft, lambda: draft.cut(start=FAR), TooMuch, given=FAR)
        draft.cut(10)
        self.is_at(draft, ((0, MOST - 1000, 100), (10, MOST, 100)), 1)
        self.fails(draft, lambda: draft.cut(11), TooMuch, given=11)
        self.fails(draft, lambda: draft.cut(10), InvalidNumber, given=10)
        draft.cut(9)
        edge = Draft(Rule(((0, 0, 1000),)))
        edge.cut(FAR)
        self.is_at(edge, ((0, 0, 1000), (FAR, MOST, 1000)), 1)
        over = Draft(Rule(((0, 1, 1000),)))
        self.fails(over, lambda: over.cut(FAR), TooMuch, given=FAR)
        over.cut(FAR - 1)


class Merging(Checks):
    def test_the_band_before_goes_on(self):
        draft = Draft(Rule(THREE))
        self.assertIsNone(draft.merge(1))
        self.is_at(draft, ((0, 10, 0), (9, 30, 1)), 1)
        self.assertIsNone(draft.merge(index=1))
        self.is_at(draft, ((0, 10, 0),), 2)

    def test_the_last_band(self):
        draft = Draft(Rule(DUES))
        draft.merge(1)
        self.is_at(draft, PLAIN, 1)

    def test_no_index(self):
        draft = Draft(Rule(THREE))
        for value in (*ODD, *STRINGS, *TUPLES, 0, -1, 3, 8, 10 ** 79, -10 ** 79):
            self.fails(draft, lambda: draft.merge(value), InvalidIndex, given=value)
            self.fails(draft, lambda: draft.merge(index=value), InvalidIndex, given=value)
        single = Draft(plain())
        for value in (0, 1):
            self.fails(single, lambda: single.merge(value), InvalidIndex, given=value)

    def test_below_nothing(self):
        # The second band would fall for ever.
        draft = Draft(Rule(THREE))
        self.fails(draft, lambda: draft.merge(2), BelowNothing, given=1)
        self.fails(draft, lambda: draft.merge(index=2), BelowNothing, given=1)
        # The index is that of the band that goes on.
        falling = Draft(Rule(((0, 9, 0), (5, 8, -2), (10, 7, 0), (11, 4, 0))))
        self.fails(falling, lambda: falling.merge(2), BelowNothing, given=1)
        falling.merge(3)
        self.is_at(falling, ((0, 9, 0), (5, 8, -2), (10, 7, 0)), 1)
        first = Draft(Rule(((0, 9, -2), (5, 8, 0), (6, 8, 0))))
        self.fails(first, lambda: first.merge(1), BelowNothing, given=0)
        # It falls to just 0.
        edge = Draft(Rule(((0, 10, -2), (5, 8, 0), (6, 8, 0))))
        edge.merge(1)
        self.is_at(edge, ((0, 10, -2), (6, 8, 0)), 1)


class Undoing(Checks):
    def test_nothing_to_undo(self):
        draft = Draft(Rule(DUES))
        self.fails(draft, draft.undo, NothingToUndo)
        draft.cut(3)
        self.assertIsNone(draft.undo())
        self.fails(draft, draft.undo, NothingToUndo)
        self.is_at(draft, DUES, 0)

    def test_back_through_all_states(self):
        chance = random.Random(71)
        for bands in (PLAIN, DUES, HELP, THREE, EIGHT):
            draft = Draft(Rule(bands))
            states = [bands]
            for _ in range(60):
                if self.changed_by(chance, draft):
                    states.append(draft.rule.bands)
                self.is_at(draft, states[-1], len(states) - 1)
                if chance.random() < 0.2 and len(states) > 1:
                    draft.undo()
                    states.pop()
                    self.is_at(draft, states[-1], len(states) - 1)
            self.assertGreater(len(states), 8)
            while len(states) > 1:
                draft.undo()
                states.pop()
                self.is_at(draft, states[-1], len(states) - 1)
            self.fails(draft, draft.undo, NothingToUndo)

    def changed_by(self, chance, draft):
        """Whether something that chance does is a change; what it is like behind it is reckoned anew."""
        bands = draft.rule.bands
        index, start = chance.randint(0, len(bands)), chance.choice((3, 17, 33, 48, 1002, FAR))
        value, step = chance.randint(0, 2000), chance.randint(-3, 130)
        do, behind = chance.choice((
            (lambda: draft.turn(index, value, step),
             [*bands[:index], (bands[index][0] if index < len(bands) else 0, value, step), *bands[index + 1:]]),
            (lambda: draft.cut(start),
             sorted([*bands, (start, onebyone.left(bands, start), onebyone.left(bands, start + 1)
                      - onebyone.left(bands, start))])),
            (lambda: draft.merge(index), [*bands[:index], *bands[index + 1:]]),
        ))
        try:
            self.assertIsNone(do())
        except (InvalidIndex, InvalidNumber, BelowNothing, TooMuch):
            self.assertEqual(draft.rule.bands, bands)
            return False
        self.assertEqual(draft.rule.bands, tuple(behind))
        return True

    def test_many_changes(self):
        draft = Draft(plain())
        for at in range(2000):
            draft.turn(0, at, at % 7)
        self.is_at(draft, ((0, 1999, 1999 % 7),), 2000)
        for at in reversed(range(2000)):
            draft.undo()
            self.assertEqual(draft.changes, at)
        self.is_at(draft, PLAIN, 0)


class Evening(Checks):
    def test_each_way_to_change_what_it_evens(self):
        draft = Draft(Rule(HELP))
        self.assertIs(draft.evens(), False)
        draft.turn(1, 70000, 40)
        self.assertIs(draft.evens(), True)
        draft.cut(2000)
        self.assertIs(draft.evens(), True)
        draft.turn(2, 110001, 50)
        self.assertIs(draft.evens(), True)
        draft.turn(2, 109000, 50)
        self.assertIs(draft.evens(), False)
        draft.merge(2)
        self.assertIs(draft.evens(), True)
        draft.undo()
        self.assertIs(draft.evens(), False)
        draft.undo()
        self.assertIs(draft.evens(), True)

    def test_small_rules_income_by_income(self):
        chance = random.Random(72)
        seen = {True: 0, False: 0}
        for _ in range(100):
            draft = Draft(Rule(onebyone.some_bands(chance, 3, 6, 300, 100)))
            for start in (70, 40, 85, 50, 60, 30):
                try:
                    draft.turn(chance.randint(0, 2), chance.randint(0, 600), chance.randint(0, 120))
                except InvalidIndex:
                    draft.cut(start)
                expected = onebyone.breaking(draft.rule.bands, PLAIN, 100) is None
                self.assertIs(draft.evens(), expected)
                seen[expected] += 1
        self.assertTrue(all(many > 50 for many in seen.values()), seen)


class Halt(BaseException):
    """Not even an Exception."""


class Trials(Checks):
    def started(self):
        draft = Draft(Rule(THREE))
        draft.turn(0, 9, 0)
        draft.cut(7)
        return draft, draft.rule.bands

    def test_a_call_alone_changes_nothing(self):
        draft, bands = self.started()
        trial = draft.trial()
        self.is_at(draft, bands, 2)
        self.assertIs(trial == draft.trial(), False)
        self.assertIs(trial == Agreeable(), False)
        draft.turn(0, 1, 0)
        self.assertEqual(draft.changes, 3)

    def test_as_gives_the_draft(self):
        draft, bands = self.started()
        with draft.trial() as found:
            self.assertIs(found, draft)
        with draft.trial():
            draft.turn(0, 5, 0)
            self.assertEqual(draft.changes, 3)
        self.is_at(draft, bands, 2)

    def test_the_draft_is_as_it_was_when_the_block_began(self):
        draft, bands = self.started()
        with draft.trial() as found:
            found.turn(0, 5, 0)
            found.merge(2)
            self.is_at(draft, ((0, 5, 0), (5, 20, -2), (9, 30, 1)), 4)
        self.is_at(draft, bands, 2)

    def test_changes_from_before_the_block(self):
        draft, bands = self.started()
        with draft.trial():
            draft.undo()
            draft.undo()
            self.is_at(draft, THREE, 0)
            draft.turn(2, 0, 0)
        self.is_at(draft, bands, 2)
        draft.undo()
        self.is_at(draft, ((0, 9, 0), *THREE[1:]), 1)
        draft.undo()
        self.is_at(draft, THREE, 0)

    def test_the_state_when_the_block_begins_counts(self):
        draft, bands = self.started()
        trial = draft.trial()
        draft.turn(0, 1, 0)
        bands = draft.rule.bands
        with trial:
            draft.turn(0, 2, 0)
        self.is_at(draft, bands, 3)

    def test_errors_are_passed_on(self):
        for error in (ValueError("x"), KeyError(3), Halt(), InvalidIndex(3), NothingToUndo(), StopIteration()):
            draft, bands = self.started()
            with self.assertRaises(type(error)) as caught:
                with draft.trial():
                    draft.undo()
                    draft.turn(2, 0, 0)
                    raise error
            self.assertIs(caught.exception, error)
            self.is_at(draft, bands, 2)

    def test_errors_of_the_draft_within(self):
        draft, bands = self.started()
        with self.assertRaises(BelowNothing):
            with draft.trial():
                draft.turn(0, 3, 0)
                draft.turn(0, 0, -1)
        self.is_at(draft, bands, 2)

    def test_blocks_that_are_left_early(self):
        draft, bands = self.started()

        def leave():
            for at in range(3):
                with draft.trial():
                    draft.turn(0, at, 0)
                    if at == 0:
                        continue
                    if at == 1:
                        break
            with draft.trial():
                draft.turn(0, 4, 0)
                return draft.rule.bands[0]

        self.assertEqual(leave(), (0, 4, 0))
        self.is_at(draft, bands, 2)

    def test_trials_within_trials(self):
        draft, bands = self.started()
        with draft.trial():
            draft.turn(0, 1, 0)
            middle = draft.rule.bands
            with draft.trial():
                draft.undo()
                draft.undo()
                with draft.trial():
                    draft.undo()
                    self.is_at(draft, THREE, 0)
                self.is_at(draft, ((0, 9, 0), *THREE[1:]), 1)
            self.is_at(draft, middle, 3)
            with self.assertRaises(NothingToUndo):
                with draft.trial():
                    for _ in range(4):
                        draft.undo()
            self.is_at(draft, middle, 3)
        self.is_at(draft, bands, 2)

    def test_the_same_trial_again_and_within_itself(self):
        draft, bands = self.started()
        trial = draft.trial()
        for at in range(3):
            with trial:
                draft.turn(0, at, 0)
                middle = draft.rule.bands
                with trial as found:
                    self.assertIs(found, draft)
                    draft.undo()
                    draft.undo()
                self.is_at(draft, middle, 3)
            self.is_at(draft, bands, 2)

    def test_trials_of_two_drafts(self):
        one, bands = self.started()
        other = Draft(Rule(DUES))
        with one.trial(), other.trial():
            one.undo()
            other.merge(1)
        self.is_at(one, bands, 2)
        self.is_at(other, DUES, 0)
        with one.trial():
            other.merge(1)
        self.is_at(one, bands, 2)
        self.is_at(other, PLAIN, 1)


class Tried(Checks):
    def test_what_the_action_returns(self):
        for value in (None, 7, "word", (), [3], ODD[0], Agreeable()):
            draft = Draft(Rule(THREE))

            def action(given):
                self.assertIs(given, draft)
                given.turn(0, 1, 0)
                given.cut(3)
                return value

            self.assertIs(draft.tried(action), value)
            self.assertIs(draft.tried(action=action), value)
            self.is_at(draft, THREE, 0)

    def test_an_answer_of_the_draft(self):
        draft = Draft(Rule(HELP))
        self.assertIs(draft.tried(lambda given: given.turn(1, 70000, 40) or given.evens()), True)
        self.assertEqual(draft.tried(lambda given: given.merge(1) or given.rule.bands), HELP[:1])
        self.assertIs(draft.tried(lambda given: given), draft)
        self.is_at(draft, HELP, 0)

    def test_errors_are_passed_on(self):
        for error in (ValueError("x"), Halt(), TooMuch(3), NothingToUndo(), StopIteration(4)):
            draft = Draft(Rule(THREE))
            draft.turn(0, 2, 0)

            def action(given):
                given.undo()
                raise error

            with self.assertRaises(type(error)) as caught:
                draft.tried(action)
            self.assertIs(caught.exception, error)
            self.is_at(draft, ((0, 2, 0), *THREE[1:]), 1)

    def test_deeds_done_to_the_draft_from_outside(self):
        draft = Draft(Rule(THREE))
        self.assertIsNone(draft.tried(lambda given: draft.turn(0, 1, 0)))
        self.assertIsNone(draft.tried(lambda given: (draft.turn(0, 1, 0), given.cut(3), draft.undo(), None)[-1]))
        self.is_at(draft, THREE, 0)

    def test_tries_within_tries(self):
        draft = Draft(Rule(THREE))

        def inner(given):
            given.merge(1)
            return given.rule.bands

        def outer(given):
            given.turn(2, 5, 0)
            found = given.tried(inner)
            return found, given.rule.bands

        self.assertEqual(draft.tried(outer), (((0, 10, 0), (9, 5, 0)), (*THREE[:2], (9, 5, 0))))
        self.is_at(draft, THREE, 0)

    def test_what_cannot_be_called(self):
        draft = Draft(Rule(THREE))
        with self.assertRaises(TypeError):
            draft.tried(None)
        self.is_at(draft, THREE, 0)


class Bounds(Checks):
    def test_all_small_turns(self):
        """Of each turn of small numbers it is told whether it is one."""
        start = ((0, 3, 0), (2, 4, 0))
        for index, value, step in itertools.product((0, 1), range(4), range(-3, 3)):
            draft = Draft(Rule(start))
            behind = (start[:index] + ((start[index][0], value, step),) + start[index + 1:])
            below = [at for at, incomes in enumerate((range(2), range(2, 9)))
                     if any(onebyone.left(behind, income) < 0 for income in incomes)]
            if below:
                self.fails(draft, lambda: draft.turn(index, value, step), BelowNothing, given=below[0])
            else:
                draft.turn(index, value, step)
                self.is_at(draft, behind, 1)


if __name__ == "__main__":
    unittest.main()

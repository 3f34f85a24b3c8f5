"""Books of rules under names, with wishes that hold after each change."""

from evenedshares.errors import Broken, InvalidIndex, InvalidName, InvalidWish, NothingToUndo, UnknownName
from evenedshares.integers import is_within
from evenedshares.rules import bands_of
from evenedshares.trials import Attempt
from evenedshares.wishes import first_failing, is_name, is_wish, names_in


class State:
    """What a book is at one time: its rules under their names, and its wishes."""

    def __init__(self, rules, wanted):
        self.rules = rules
        self.wanted = wanted


class Book:
    """A book, each change of which can be taken back."""

    def __init__(self):
        # All states up to the present one. Neither the tuple nor a state is ever modified, so that a trial can keep
        # them and put them back.
        self._states = (State({}, ()),)

    def __setitem__(self, name, rule):
        if not is_name(name):
            raise InvalidName(name)
        bands_of(rule)
        state = self._states[-1]
        self._change({**state.rules, name: rule}, state.wanted)

    def __getitem__(self, name):
        if name not in self:
            raise UnknownName(name)
        return self._states[-1].rules[name]

    def __iter__(self):
        raise TypeError("a book is not iterated over")

    def __contains__(self, value):
        # Other values may be such as a dict cannot look up.
        return isinstance(value, str) and value in self._states[-1].rules

    def __len__(self):
        return len(self._states[-1].rules)

    def __bool__(self):
        return True

    def __eq__(self, other):
        return self is other

    @property
    def names(self):
        """The ascending tuple of the names."""
        return tuple(sorted(self._states[-1].rules))

    @property
    def wishes(self):
        """The tuple of the wishes, as they were passed."""
        return self._states[-1].wanted

    @property
    def changes(self):
        """How many changes can be taken back."""
        return len(self._states) - 1

    def wish(self, wish):
        """Add this wish behind the others."""
        if not is_wish(wish):
            raise InvalidWish(wish)
        for name in names_in(wish):
            if name not in self:
                raise UnknownName(name)
        self._change(self._states[-1].rules, (*self.wishes, wish))

    def lift(self, index):
        """Take the wish with this index away."""
        wishes = self.wishes
        if not is_within(index, 0, len(wishes) - 1):
            raise InvalidIndex(index)
        self._change(self._states[-1].rules, (*wishes[:index], *wishes[index + 1:]))

    def undo(self):
        """Take back the last change that has not been taken back."""
        if self.changes == 0:
            raise NothingToUndo()
        self._states = self._states[:-1]

    def trial(self):
        """Return a block for a `with` statement, behind which the book is as it was if an exception ends the block."""
        return Attempt(self)

    def tried(self, action):
        """Call this function with the book within a trial, and return what it returns."""
        with self.trial() as book:
            return action(book)

    def _change(self, rules, wishes):
        """Have these rules and wishes from now on, unless a wish would not hold."""
        failing = first_failing(wishes, rules)
        if failing is not None:
            raise Broken(failing)
        self._states = (*self._states, State(rules, wishes))

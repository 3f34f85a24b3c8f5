import unittest

from evenedshares import errors
from strange import INTEGERS, ODD, STRINGS, TUPLES

BASES = {"WrongValue": ValueError, "WrongName": LookupError, "NoAnswer": ArithmeticError}

# For each class its base class and its attribute, if it has one.
CLASSES = {
    "InvalidText": ("WrongValue", "given"),
    "InvalidNumber": ("WrongValue", "given"),
    "InvalidName": ("WrongValue", "given"),
    "InvalidWish": ("WrongValue", "given"),
    "InvalidIndex": ("WrongValue", "given"),
    "NotARule": ("WrongValue", "given"),
    "NotAPurse": ("WrongValue", "given"),
    "InvalidBands": ("WrongValue", "index"),
    "InvalidKinds": ("WrongValue", "index"),
    "InvalidChanges": ("WrongValue", "index"),
    "UnknownName": ("WrongName", "given"),
    "TooMuch": ("NoAnswer", "given"),
    "OrderTurned": ("NoAnswer", "given"),
    "BelowNothing": ("NoAnswer", "given"),
    "NothingToUndo": ("NoAnswer", None),
    "Broken": ("NoAnswer", "index"),
}


def own_classes():
    return [thing for thing in vars(errors).values()
            if isinstance(thing, type) and thing.__module__ == errors.__name__]


class Errors(unittest.TestCase):
    def test_these_classes_and_no_others(self):
        names = sorted(each.__name__ for each in own_classes())
        self.assertEqual(names, sorted([*BASES, *CLASSES]))

    def test_base_classes_stand_under_a_class_of_python(self):
        for name, above in BASES.items():
            with self.subTest(name=name):
                self.assertEqual(getattr(errors, name).__bases__, (above,))

    def test_each_class_stands_under_its_base_class_alone(self):
        for name, (base, _) in CLASSES.items():
            with self.subTest(name=name):
                found = getattr(errors, name)
                above = [each.__name__ for each in own_classes() if issubclass(found, each) and each is not found]
                self.assertEqual(above, [base])
                for other, python in BASES.items():
                    self.assertIs(issubclass(found, python), other == base)

    def test_attribute_is_kept_as_it_was_passed(self):
        for name, (_, attribute) in CLASSES.items():
            if attribute is None:
                continue
            for value in (*ODD, *STRINGS, *INTEGERS, *TUPLES):
                with self.subTest(name=name, value=value):
                    by_position = getattr(errors, name)(value)
                    by_name = getattr(errors, name)(**{attribute: value})
                    self.assertEqual(list(vars(by_position)), [attribute])
                    self.assertIs(getattr(by_position, attribute), value)
                    self.assertIs(getattr(by_name, attribute), value)

    def test_attribute_must_be_passed_under_its_name(self):
        for name, (_, attribute) in CLASSES.items():
            if attribute is None:
                continue
            with self.subTest(name=name):
                with self.assertRaises(TypeError):
                    getattr(errors, name)()
                with self.assertRaises(TypeError):
                    getattr(errors, name)(**{{"given": "index", "index": "given"}[attribute]: 1})

    def test_nothing_to_undo_takes_no_arguments(self):
        self.assertEqual(vars(errors.NothingToUndo()), {})

    def test_errors_can_be_raised_and_caught_by_their_base_classes(self):
        for name, (base, attribute) in CLASSES.items():
            arguments = () if attribute is None else (7,)
            with self.subTest(name=name):
                for caught in (getattr(errors, name), getattr(errors, base), BASES[base]):
                    with self.assertRaises(caught):
                        raise getattr(errors, name)(*arguments)


if __name__ == "__main__":
    unittest.main()

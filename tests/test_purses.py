import unittest

from evenedshares.errors import InvalidKinds
from evenedshares.purses import Purse
from strange import INTEGERS, ODD, STRINGS, TUPLES

TOWN = ((0, 2), (500, 10), (3000, 1))
THIRTY = tuple((7 * at, at + 1) for at in range(30))
# Each number is at its bound somewhere: the least and the greatest amounts and counts.
BOUNDS = ((0, 10 ** 72), (1, 1), (10 ** 36 - 1, 10 ** 72 - 1), (10 ** 36, 10 ** 72))
GREATEST = tuple((10 ** 36 - 29 + at, 10 ** 72) for at in range(30))


class Making(unittest.TestCase):
    def test_kinds_are_kept_as_they_were_passed(self):
        for kinds in (((0, 1),), ((10 ** 36, 10 ** 72),), TOWN, THIRTY, BOUNDS, GREATEST):
            with self.subTest(kinds=kinds):
                self.assertIs(Purse(kinds).kinds, kinds)
                self.assertIs(Purse(kinds=kinds).kinds, kinds)

    def test_length_is_the_number_of_kinds(self):
        self.assertEqual([len(Purse(THIRTY[:many])) for many in range(1, 31)], list(range(1, 31)))
        self.assertEqual(len(Purse(((5, 10 ** 72),))), 1)

    def test_people_are_all_counts_together(self):
        self.assertEqual(Purse(TOWN).people, 13)
        self.assertEqual(Purse(((0, 1),)).people, 1)
        self.assertEqual(Purse(THIRTY).people, 465)
        self.assertEqual(Purse(BOUNDS).people, 3 * 10 ** 72)
        self.assertEqual(Purse(GREATEST).people, 30 * 10 ** 72)

    def test_total_is_what_all_have(self):
        self.assertEqual(Purse(TOWN).total, 8000)
        self.assertEqual(Purse(((0, 10 ** 72),)).total, 0)
        self.assertEqual(Purse(((10 ** 36, 10 ** 72),)).total, 10 ** 108)
        self.assertEqual(Purse(THIRTY).total, sum(7 * at * (at + 1) for at in range(30)))
        self.assertEqual(Purse(BOUNDS).total, 1 + (10 ** 36 - 1) * (10 ** 72 - 1) + 10 ** 108)

    def test_properties_cannot_be_set(self):
        purse = Purse(TOWN)
        for name in ("kinds", "people", "total"):
            with self.assertRaises(AttributeError):
                setattr(purse, name, 1)
        self.assertEqual((purse.kinds, purse.people, purse.total), (TOWN, 13, 8000))

    def test_every_purse_is_true(self):
        for kinds in (((0, 1),), TOWN, THIRTY):
            self.assertIs(bool(Purse(kinds)), True)

    def test_text_has_a_line_for_each_kind(self):
        self.assertEqual(str(Purse(((0, 1),))), "1 of 0")
        self.assertEqual(str(Purse(TOWN)), "2 of 0\n10 of 500\n1 of 3000")
        self.assertEqual(str(Purse(BOUNDS)).split("\n"), [
            "1" + "0" * 72 + " of 0",
            "1 of 1",
            "9" * 72 + " of " + "9" * 36,
            "1" + "0" * 72 + " of 1" + "0" * 36,
        ])

    def test_text_of_one_kind(self):
        for kind, text in (((0, 7), "7 of 0"), ((500, 10), "10 of 500"),
                           ((10 ** 36, 10 ** 72), "1" + "0" * 72 + " of 1" + "0" * 36)):
            with self.subTest(kind=kind):
                self.assertIs(type(str(Purse((kind,)))), str)
                self.assertEqual(str(Purse((kind,))), text)

    def test_text_of_several_kinds(self):
        self.assertEqual(str(Purse(((1, 1), (3, 1)))), "1 of 1\n1 of 3")
        self.assertEqual(str(Purse(((0, 30), (7, 200), (40, 5), (100, 10)))),
                         "30 of 0\n200 of 7\n5 of 40\n10 of 100")
        text = str(Purse(THIRTY))
        self.assertIs(type(text), str)
        self.assertTrue(text.startswith("1 of 0\n2 of 7\n3 of 14\n"))
        self.assertTrue(text.endswith("\n29 of 196\n30 of 203"))
        self.assertEqual(text.count("\n"), 29)


class Equality(unittest.TestCase):
    def check(self, one, other, equal):
        self.assertIs(one == other, equal)
        self.assertIs(one != other, not equal)

    def test_equal_purses(self):
        for kinds in (((0, 1),), TOWN, THIRTY, BOUNDS):
            with self.subTest(kinds=kinds):
                purse = Purse(kinds)
                self.check(purse, purse, True)
                self.check(purse, Purse(tuple(tuple(kind) for kind in kinds)), True)
                self.check(purse, Purse.read(str(purse)), True)

    def test_purses_with_other_kinds_are_not_equal(self):
        for kinds in (TOWN[:2], TOWN[1:], THIRTY, ((0, 2), (500, 10), (3000, 2)), ((0, 2), (500, 10), (3001, 1)),
                      ((1, 2), (500, 10), (3000, 1))):
            with self.subTest(kinds=kinds):
                self.check(Purse(TOWN), Purse(kinds), False)
                self.check(Purse(kinds), Purse(TOWN), False)

    def test_purses_with_the_same_shares_are_not_equal(self):
        self.check(Purse(TOWN), Purse(tuple((amount, 2 * count) for amount, count in TOWN)), False)
        self.check(Purse(TOWN), Purse(tuple((2 * amount, count) for amount, count in TOWN)), False)
        self.check(Purse(((0, 1),)), Purse(((0, 2),)), False)
        self.check(Purse(((0, 1),)), Purse(((1, 1),)), False)

    def test_values_of_other_classes_are_not_equal(self):
        purse = Purse(TOWN)
        for value in (*ODD, *STRINGS, *INTEGERS, *TUPLES, TOWN, list(TOWN), str(purse), Purse):
            with self.subTest(value=value):
                self.check(purse, value, False)


class Wrong(unittest.TestCase):
    def refused(self, kinds, index):
        """Both ways to pass the kinds are refused, with this index."""
        for make in (lambda: Purse(kinds), lambda: Purse(kinds=kinds)):
            with self.subTest(kinds=kinds):
                with self.assertRaises(InvalidKinds) as caught:
                    make()
                if index is None:
                    self.assertIsNone(caught.exception.index)
                else:
                    self.assertIs(type(caught.exception.index), int)
                    self.assertEqual(caught.exception.index, index)

    def test_no_tuple(self):
        for value in (*ODD, *STRINGS, *INTEGERS, list(TOWN), [], "2 of 0", Purse(TOWN)):
            self.refused(value, None)

    def test_no_kinds(self):
        self.refused((), None)

    def test_the_thirty_first_kind(self):
        further = (1000, 1)
        self.refused((*THIRTY, further), 30)
        self.refused((*THIRTY, further, (2000, 1), None), 30)
        self.refused((*THIRTY, None), 30)
        self.refused((*THIRTY[:29], THIRTY[28], further), 29)
        self.refused((None, *THIRTY), 0)

    def test_elements_that_are_no_pairs(self):
        for value in (*ODD, *STRINGS, *INTEGERS, [1, 1], list(TOWN[1])):
            self.refused((value,), 0)
            self.refused((*TOWN, value), 3)
            self.refused((TOWN[0], value, TOWN[2]), 1)
        for value in ((), (0,), (0, 1, 1), ((0, 1),), TOWN):
            self.refused((value,), 0)
        for value in ((), (4000,), (4000, 1, 1), ((4000, 1),)):
            self.refused((*TOWN, value), 3)

    def test_numbers_that_are_no_integers(self):
        for value in (*ODD, *STRINGS, *TUPLES):
            self.refused(((value, 1),), 0)
            self.refused(((0, value),), 0)
            self.refused(((0, 1), (value, 1)), 1)
            self.refused(((0, 1), (7, value)), 1)

    def test_true_and_false_are_no_numbers(self):
        self.refused(((False, 1),), 0)
        self.refused(((True, 1),), 0)
        self.refused(((0, True),), 0)
        self.refused(((0, False),), 0)
        self.refused(((0, 1), (True, 1)), 1)
        self.refused(((0, 1), (1, True)), 1)

    def test_numbers_one_beyond_their_bounds(self):
        self.refused(((-1, 1),), 0)
        self.refused(((10 ** 36 + 1, 1),), 0)
        self.refused(((0, 0),), 0)
        self.refused(((0, -1),), 0)
        self.refused(((0, 10 ** 72 + 1),), 0)
        self.refused(((5, 1), (10 ** 36 + 1, 1)), 1)
        self.refused(((5, 1), (6, 0)), 1)
        self.refused(((5, 1), (6, 10 ** 72 + 1)), 1)
        self.refused(((-10 ** 79, 1),), 0)
        self.refused(((10 ** 79, 1),), 0)

    def test_amounts_rise(self):
        self.refused(((0, 1), (0, 1)), 1)
        self.refused(((5, 1), (4, 1)), 1)
        self.refused(((5, 1), (5, 2), (6, 1)), 1)
        self.refused(((5, 1), (6, 1), (6, 1)), 2)
        self.refused(((5, 1), (7, 1), (6, 1)), 2)
        self.refused(((5, 1), (7, 1), (5, 1)), 2)
        self.refused(((10 ** 36, 1), (10 ** 36, 1)), 1)
        self.assertEqual(len(Purse(((5, 1), (6, 1), (7, 1)))), 3)

    def test_the_first_of_several_wrong_ones(self):
        self.refused(((0, 1), None, (5,), [], (3, 0)), 1)
        self.refused(((0, 1), (5, 1), (5, 1), (1, 0)), 2)
        self.refused(((0, 0), (0, 1)), 0)
        self.refused(((9, 1), (10, 0), (3, 1)), 1)


if __name__ == "__main__":
    unittest.main()

import unittest

from evenedshares.errors import InvalidText
from evenedshares.purses import Purse
from strange import INTEGERS, ODD, TUPLES

THREE = "2 of 0\n10 of 500\n1 of 3000"
PURSES = (
    ((0, 1),),
    ((0, 2), (500, 10), (3000, 1)),
    ((0, 10 ** 72), (1, 1), (10 ** 36 - 1, 10 ** 72 - 1), (10 ** 36, 10 ** 72)),
    tuple((7 * at, at + 1) for at in range(30)),
    # The longest text of all.
    tuple((10 ** 36 - 29 + at, 10 ** 72) for at in range(30)),
)


class Reading(unittest.TestCase):
    def test_each_text_gives_its_purse_back(self):
        for kinds in PURSES:
            with self.subTest(kinds=kinds):
                text = str(Purse(kinds))
                for purse in (Purse.read(text), Purse.read(text=text)):
                    self.assertIs(type(purse), Purse)
                    self.assertEqual(purse.kinds, kinds)
                    self.assertEqual(purse, Purse(kinds))
                    self.assertEqual(str(purse), text)

    def test_kinds_read_are_tuples_of_integers(self):
        purse = Purse.read(THREE)
        self.assertIs(type(purse.kinds), tuple)
        self.assertEqual([type(kind) for kind in purse.kinds], [tuple] * 3)
        self.assertEqual({type(number) for kind in purse.kinds for number in kind}, {int})
        self.assertEqual((purse.people, purse.total), (13, 8000))


class Refusing(unittest.TestCase):
    def refused(self, text):
        for call in (lambda: Purse.read(text), lambda: Purse.read(text=text)):
            with self.subTest(text=text):
                with self.assertRaises(InvalidText) as caught:
                    call()
                self.assertIs(caught.exception.given, text)

    def test_no_strings(self):
        for value in (*ODD, *INTEGERS, *TUPLES, THREE.encode(), THREE.split("\n"), Purse.read(THREE), ((0, 2),)):
            self.refused(value)

    def test_needless_zeros(self):
        for line in ("02 of 5", "2 of 05", "2 of 00", "00 of 5", "2 of 0\n010 of 500", "2 of 0\n10 of 0500"):
            self.refused(line)

    def test_signs(self):
        for line in ("+2 of 5", "-2 of 5", "2 of +5", "2 of -5", "2 of -0", "2 of +0", "--2 of 5", "2 of --5", "- of 5",
                     "2 of -", "2 of - 5", "2 of -1\n2 of 5"):
            self.refused(line)

    def test_other_spaces(self):
        for line in ("2  of 5", "2 of  5", " 2 of 5", "2 of 5 ", "2\tof 5", "2 of\t5", "2of 5", "2 of5", "2of5",
                     "2\nof 5", "2 of\n5", "2 of 5 0", "2 of 5\t"):
            self.refused(line)
        self.refused(THREE.replace("\n", " "))
        self.refused(THREE.replace("\n", " \n"))
        self.refused(THREE.replace("\n", "\n "))

    def test_empty_lines_and_a_newline_at_an_end(self):
        for text in ("", "\n", "\n\n", " ", THREE + "\n", "\n" + THREE, THREE.replace("\n", "\n\n"),
                     THREE.replace("\n", "\r\n"), THREE + "\r", "2 of 5\n"):
            self.refused(text)

    def test_missing_and_other_words(self):
        for line in ("of", "2", "2 of", "of 5", "2 5", "2 2 of 5", "2 of of 5", "2 of 5 5", "2 on 5", "2 OF 5", "2 Of 5",
                     "5 of", "of 2 5", "2 5 of", "2  5", "2 of 5 and", "2 of 5.", "two of five", "2 x 5", "2, 5",
                     "((5, 2),)", "from 0 value 0 step 100"):
            self.refused(line)
        self.refused(THREE + "\n1")
        self.refused(THREE + "\n1 of")

    def test_words_that_are_no_decimal_digits(self):
        for word in ("a", "0x1", "1_0", "1.0", "1e2", "", "None", "True", "1,000", "'1'", "\u00b2", "\u0663"):
            self.refused(f"{word} of 5")
            self.refused(f"2 of {word}")

    def test_long_numbers(self):
        # Python itself refuses to read more than 4300 digits.
        for many in (74, 80, 81, 82, 4300, 4301, 5900):
            for digit in ("0", "9"):
                self.refused(f"1{digit * many} of 5")
                self.refused(f"{digit * many} of 5")
                self.refused(f"2 of 1{digit * many}")
                self.refused(f"2 of {digit * many}")

    def test_kinds_that_are_none(self):
        lines = [f"{at + 1} of {7 * at}" for at in range(31)]
        self.assertEqual(len(Purse.read("\n".join(lines[:30]))), 30)
        self.refused("\n".join(lines))
        self.refused("0 of 5")
        self.refused("2 of 5\n2 of 5")
        self.refused("2 of 5\n2 of 4")
        self.refused("2 of 5\n3 of 7\n1 of 6")
        self.refused("1" + "0" * 71 + "1 of 5")
        self.refused("1 of 1" + "0" * 35 + "1")


if __name__ == "__main__":
    unittest.main()

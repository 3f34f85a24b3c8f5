import unittest

from evenedshares.errors import InvalidText
from evenedshares.rules import Rule
from strange import INTEGERS, ODD, TUPLES

TWO = "from 0 value 0 step 100\nfrom 1000 value 100000 step 60"
RULES = (
    ((0, 0, 0),),
    ((0, 0, 100),),
    ((0, 0, 100), (1000, 100000, 60)),
    ((0, 10 ** 32, -1000), (1, 0, 1000), (10 ** 29 - 1, 10 ** 32, 0), (10 ** 29, 10 ** 32, 1000)),
    ((0, 9, -1), (10, 5, 0), (11, 5, -5), (12, 0, 1)),
    tuple((10 * at, 1000 * at, 100 - at) for at in range(8)),
)


class Reading(unittest.TestCase):
    def test_each_text_gives_its_rule_back(self):
        for bands in RULES:
            with self.subTest(bands=bands):
                text = str(Rule(bands))
                for rule in (Rule.read(text), Rule.read(text=text)):
                    self.assertIs(type(rule), Rule)
                    self.assertEqual(rule.bands, bands)
                    self.assertEqual(rule, Rule(bands))
                    self.assertEqual(str(rule), text)

    def test_bands_read_are_tuples_of_integers(self):
        bands = Rule.read(TWO).bands
        self.assertIs(type(bands), tuple)
        self.assertEqual([type(band) for band in bands], [tuple, tuple])
        self.assertEqual({type(number) for band in bands for number in band}, {int})


class Refusing(unittest.TestCase):
    def refused(self, text):
        for call in (lambda: Rule.read(text), lambda: Rule.read(text=text)):
            with self.subTest(text=text):
                with self.assertRaises(InvalidText) as caught:
                    call()
                self.assertIs(caught.exception.given, text)

    def test_no_strings(self):
        for value in (*ODD, *INTEGERS, *TUPLES, TWO.encode(), TWO.split("\n"), Rule.read(TWO)):
            self.refused(value)

    def test_needless_zeros(self):
        for line in ("from 00 value 0 step 100", "from 0 value 00 step 100", "from 0 value 07 step 100",
                     "from 0 value 0 step 0100", "from 0 value 0 step 00"):
            self.refused(line)
        self.refused("from 0 value 0 step 100\nfrom 01000 value 0 step 0")
        self.refused("from 0 value 9 step -01\nfrom 5 value 0 step 0")

    def test_signs(self):
        for line in ("from +0 value 0 step 100", "from -0 value 0 step 100", "from 0 value +0 step 100",
                     "from 0 value -0 step 100", "from 0 value 0 step +100", "from 0 value 0 step -0",
                     "from 0 value 0 step --1", "from 0 value 0 step -", "from 0 value -1 step 0"):
            self.refused(line)
        self.refused("from 0 value 9 step - 1\nfrom 5 value 0 step 0")
        self.refused("from 0 value 9 step --1\nfrom 5 value 0 step 0")
        self.refused("from 0 value 0 step 0\nfrom +5 value 0 step 0")
        self.refused("from 0 value 0 step 0\nfrom -5 value 0 step 0")

    def test_other_spaces(self):
        for line in ("from  0 value 0 step 100", " from 0 value 0 step 100", "from 0 value 0 step 100 ",
                     "from 0  value 0 step 100", "from 0 value 0 step  100", "from 0 value 0  step 100",
                     "from\t0 value 0 step 100", "from 0 value 0 step\t100", "from 0 value 0 step100",
                     "from0 value 0 step 100", "from\n0 value 0 step 100", "from 0 value 0 step 1 00"):
            self.refused(line)
        self.refused(TWO.replace("\n", " "))
        self.refused(TWO.replace("\n", " \n"))
        self.refused(TWO.replace("\n", "\n "))

    def test_empty_lines_and_a_newline_at_an_end(self):
        for text in ("", "\n", "\n\n", " ", TWO + "\n", "\n" + TWO, TWO.replace("\n", "\n\n"),
                     TWO.replace("\n", "\r\n"), TWO + "\r", "from 0 value 0 step 100\n"):
            self.refused(text)

    def test_missing_and_other_words(self):
        words = "from 0 value 0 step 100".split(" ")
        for at in range(6):
            self.refused(" ".join(words[:at] + words[at + 1:]))
            self.refused(" ".join(words[:at] + ["other"] + words[at + 1:]))
            self.refused(" ".join(words[:at] + [words[at]] * 2 + words[at + 1:]))
            self.refused(" ".join(words[:at] + [""] + words[at + 1:]))
        for line in ("FROM 0 VALUE 0 STEP 100", "From 0 value 0 step 100", "value 0 from 0 step 100",
                     "step 100 value 0 from 0", "from 0 value 0 step 100 and", "0 0 100", "plain", "((0, 0, 100),)",
                     "from: 0 value 0 step 100", "from 0, value 0, step 100"):
            self.refused(line)
        self.refused(TWO + "\nfrom")
        self.refused(TWO + "\nfrom 2000")

    def test_words_that_are_no_decimal_digits(self):
        for word in ("a", "0x1", "1_0", "1.0", "1e2", "", "None", "True", "1,000", "'0'", "\u00b2", "\u0663"):
            self.refused(f"from {word} value 0 step 100")
            self.refused(f"from 0 value {word} step 100")
            self.refused(f"from 0 value 0 step {word}")

    def test_long_numbers(self):
        # Python itself refuses to read more than 4300 digits.
        for many in (33, 34, 80, 81, 82, 4300, 4301, 5900):
            for digit in ("0", "9"):
                self.refused(f"from {digit * many} value 0 step 100")
                self.refused(f"from 0 value 1{digit * many} step 100")
                self.refused(f"from 0 value 0 step {digit * many}")
                self.refused(f"from 0 value 0 step -{digit * many}")

    def test_bands_that_are_none(self):
        lines = [f"from {10 * at} value 0 step 1" for at in range(9)]
        self.assertEqual(len(Rule.read("\n".join(lines[:8]))), 8)
        self.refused("\n".join(lines))
        self.refused("from 1 value 0 step 100")
        self.refused("from 0 value 0 step 1001")
        self.refused("from 0 value 0 step 100\nfrom 0 value 0 step 100")
        self.refused("from 0 value 0 step 1\nfrom 9 value 0 step 1\nfrom 8 value 0 step 1")
        self.refused("from 0 value 1" + "0" * 31 + "1 step 0")
        self.refused("from 0 value 0 step 0\nfrom 1" + "0" * 28 + "1 value 0 step 0")
        self.refused("from 0 value 10 step -3\nfrom 5 value 0 step 1")
        self.refused("from 0 value 10 step -3")


if __name__ == "__main__":
    unittest.main()

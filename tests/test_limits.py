import unittest

from evenedshares import limits

VALUES = {
    "MOST_BANDS": 8,
    "MOST_STEP": 1000,
    "MOST_START": int("1" + "0" * 29),
    "MOST_INCOME": int("1" + "0" * 30),
    "MOST_VALUE": int("1" + "0" * 32),
    "MOST_KINDS": 30,
    "MOST_AMOUNT": int("1" + "0" * 36),
    "MOST_COUNT": int("1" + "0" * 72),
    "MOST_CHANGES": 6,
}


class Limits(unittest.TestCase):
    def test_each_name_has_its_value(self):
        for name, value in VALUES.items():
            with self.subTest(name=name):
                self.assertIs(type(getattr(limits, name)), int)
                self.assertEqual(getattr(limits, name), value)

    def test_there_are_no_other_limits(self):
        self.assertEqual(sorted(VALUES), sorted(name for name in vars(limits) if name.isupper()))


if __name__ == "__main__":
    unittest.main()

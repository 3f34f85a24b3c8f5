"""What tests of errors have in common."""

import unittest


class Refusing(unittest.TestCase):
    def refused(self, call, error, **told):
        """The call raises this very error, with these very attributes."""
        with self.assertRaises(error) as caught:
            call()
        self.assertIs(type(caught.exception), error)
        self.assertEqual(sorted(vars(caught.exception)), sorted(told))
        for name, value in told.items():
            found = getattr(caught.exception, name)
            if type(value) in (int, str, tuple):
                self.assertEqual(found, value)
                self.assertIs(type(found), type(value))
            else:
                self.assertIs(found, value)

"""What README.md shows is what the program does."""

import doctest
import pathlib
import re
import unittest

from evenedshares import errors

README = pathlib.Path(__file__).resolve().parent.parent / "README.md"
# An example that raises, told behind it: `>>> dues.left(-1)  # InvalidNumber, given -1`.
RAISING = re.compile(r">>> (.*?) +# (\w+), (given|index) (-?\d+|\"\w+\"|the text|the tuple)(:.*)?")


class Readme(unittest.TestCase):
    def test_examples(self):
        text = README.read_text(encoding="utf-8")
        names = {}
        blocks = re.findall(r"```\n(>>> .*?)```", text, re.DOTALL)
        shown = "\n\n".join(block for block in blocks if not self.raising(block))
        example = doctest.DocTestParser().get_doctest(shown, names, "README.md", str(README), 0)
        self.assertGreater(len(example.examples), 40)
        told = []
        runner = doctest.DocTestRunner(verbose=False)
        runner.run(example, out=told.append, clear_globs=False)
        self.assertEqual(told, [])
        self.errors(text, example.globs)

    def raising(self, block):
        return all(RAISING.fullmatch(line) for line in block.strip().split("\n"))

    def errors(self, text, names):
        found = [RAISING.fullmatch(line) for line in text.split("\n")]
        found = [each.groups() for each in found if each]
        self.assertGreater(len(found), 8)
        for call, name, attribute, value, _ in found:
            with self.subTest(call=call):
                with self.assertRaises(getattr(errors, name)) as caught:
                    exec(call, names)
                given = getattr(caught.exception, attribute)
                if not value.startswith("the "):
                    self.assertEqual(given, eval(value))


if __name__ == "__main__":
    unittest.main()

"""The rules of LANGUAGE.md that can be looked up mechanically."""

import ast
import pathlib
import unittest

PACKAGE = pathlib.Path(__file__).resolve().parent.parent / "evenedshares"
FILES = sorted(PACKAGE.glob("**/*.py"))
LIBRARY = {"heapq", "math", "itertools", "collections"}
BUILTINS = set(
    "len range enumerate zip min max sum abs sorted reversed int str bool list tuple dict set isinstance ord repr any "
    "all divmod pow map iter next bytes type getattr hasattr setattr property classmethod staticmethod super".split())


def trees():
    for path in FILES:
        yield path.name, ast.parse(path.read_text(encoding="utf-8"))


def is_plain_text(value):
    """Whether this is a string, an f-string, str(..), repr(..) or the join of a literal."""
    if isinstance(value, ast.JoinedStr) or is_literal(value, str):
        return True
    if not isinstance(value, ast.Call):
        return False
    if isinstance(value.func, ast.Attribute):
        return value.func.attr == "join" and is_literal(value.func.value, str)
    return isinstance(value.func, ast.Name) and value.func.id in ("str", "repr")


def is_plain_length(value):
    """Whether this is len(..) or a literal number."""
    if isinstance(value, ast.Call):
        return isinstance(value.func, ast.Name) and value.func.id == "len"
    return is_literal(value, int)


def is_literal(value, kind):
    return isinstance(value, ast.Constant) and type(value.value) is kind


# What each return of these methods is (L28).
FORMS = {"__str__": is_plain_text, "__repr__": is_plain_text, "__len__": is_plain_length}


def formless(tree):
    """The rows at which a return of a method of FORMS, or its end, is not as L28 asks for."""
    rows = []
    for node in ast.walk(tree):
        if isinstance(node, ast.FunctionDef) and node.name in FORMS:
            returns = [each for each in ast.walk(node) if isinstance(each, ast.Return)]
            rows += [each.lineno for each in returns if not FORMS[node.name](each.value)]
            if not isinstance(node.body[-1], ast.Return):
                rows.append(node.end_lineno)
    return rows


class Language(unittest.TestCase):
    def test_the_folder_holds_python_files_only(self):
        others = [path for path in PACKAGE.iterdir() if path.suffix != ".py" and path.name != "__pycache__"]
        self.assertEqual(others, [])
        self.assertIn(PACKAGE / "__init__.py", FILES)

    def test_sizes_and_characters(self):
        for path in FILES:
            text = path.read_text(encoding="utf-8")
            with self.subTest(file=path.name):
                self.assertLessEqual(text.count("\n"), 399)
                self.assertLessEqual(max(len(line) for line in text.split("\n")), 120)
                self.assertEqual([char for char in text if char != "\n" and not " " <= char <= "~"], [])

    def test_functions_have_at_most_40_lines(self):
        for name, tree in trees():
            for node in ast.walk(tree):
                if isinstance(node, ast.FunctionDef):
                    with self.subTest(file=name, function=node.name):
                        self.assertLessEqual(node.end_lineno - node.lineno + 1, 40)

    def test_imports(self):
        for name, tree in trees():
            for node in ast.walk(tree):
                self.assertNotIsInstance(node, ast.Import, name)
                if isinstance(node, ast.ImportFrom):
                    self.assertEqual(node.level, 0)
                    self.assertTrue(node.module in LIBRARY or node.module.startswith("evenedshares."), node.module)
                    self.assertEqual([each.asname for each in node.names if each.asname], [])

    def test_numbers(self):
        for name, tree in trees():
            for node in ast.walk(tree):
                with self.subTest(file=name, line=getattr(node, "lineno", None)):
                    self.assertNotIsInstance(node, ast.Div)
                    self.assertFalse(isinstance(node, ast.Constant) and isinstance(node.value, (float, complex)))
                    if isinstance(node, ast.BinOp) and isinstance(node.op, ast.Pow):
                        if isinstance(node.right, ast.Constant):
                            self.assertIn(node.right.value, range(65))

    def test_no_generator_expressions_beside_classes_that_compare(self):
        for name, tree in trees():
            for node in ast.walk(tree):
                self.assertNotIsInstance(node, ast.GeneratorExp, name)

    def test_no_variable_has_the_name_of_an_import_or_a_class(self):
        for name, tree in trees():
            taken = {each.asname or each.name for node in tree.body if isinstance(node, ast.ImportFrom)
                     for each in node.names}
            taken |= {node.name for node in tree.body if isinstance(node, ast.ClassDef)}
            for node in ast.walk(tree):
                if isinstance(node, ast.Name) and isinstance(node.ctx, ast.Store):
                    self.assertNotIn(node.id, taken, f"{name}:{node.lineno}")
                if isinstance(node, ast.arg):
                    self.assertNotIn(node.arg, taken, f"{name}:{node.lineno}")

    def test_is_stands_beside_none_true_false_and_self_alone(self):
        for name, tree in trees():
            for node in ast.walk(tree):
                if isinstance(node, ast.Compare) and any(isinstance(op, (ast.Is, ast.IsNot)) for op in node.ops):
                    sides = [ast.unparse(side) for side in (node.left, *node.comparators)]
                    self.assertTrue({"None", "True", "False", "self"}.intersection(sides), f"{name}:{node.lineno}")

    def test_classes_of_values_are_compared_on_the_spot(self):
        for name, tree in trees():
            compared = {id(node.left) for node in ast.walk(tree) if isinstance(node, ast.Compare)}
            for node in ast.walk(tree):
                if isinstance(node, ast.Call) and isinstance(node.func, ast.Name) and node.func.id == "type":
                    self.assertIn(id(node), compared, f"{name}:{node.lineno}")

    def test_nothing_is_read_off_a_class(self):
        classes = {node.name for _, tree in trees() for node in ast.walk(tree) if isinstance(node, ast.ClassDef)}
        for name, tree in trees():
            for node in ast.walk(tree):
                if isinstance(node, ast.Attribute) and isinstance(node.value, ast.Name):
                    self.assertNotIn(node.value.id, classes, f"{name}:{node.lineno}")

    def test_blocks_end_with_plain_assignments(self):
        """In an `__exit__` stand assignments of names and attributes, and questions after the kind of an error."""
        for name, tree in trees():
            for node in ast.walk(tree):
                if isinstance(node, ast.FunctionDef) and node.name == "__exit__":
                    rows = [row for each in node.body for row in ast.walk(each)]
                    kinds = {type(row).__name__ for row in rows if isinstance(row, (ast.stmt, ast.expr))}
                    self.assertLessEqual(kinds, {"Assign", "If", "Compare", "Name", "Attribute", "Constant"})

    def test_what_has_items_says_that_it_is_not_iterated_over(self):
        for name, tree in trees():
            for node in ast.walk(tree):
                if isinstance(node, ast.ClassDef):
                    methods = [each.name for each in node.body if isinstance(each, ast.FunctionDef)]
                    if "__getitem__" in methods:
                        self.assertIn("__iter__", methods)

    def test_texts_and_lengths_are_returned_in_plain_forms(self):
        for name, tree in trees():
            with self.subTest(file=name):
                self.assertEqual(formless(tree), [])

    def test_other_forms_of_texts_and_lengths_are_found(self):
        for name, value, right in (
                ("__str__", "'\\n'.join(lines_of(self._bands))", True), ("__str__", "str(self._bands)", True),
                ("__str__", "'none'", True), ("__repr__", "f'{self._bands}'", True), ("__repr__", "repr(self)", True),
                ("__str__", "text_of(self._bands)", False), ("__str__", "self.text()", False),
                ("__str__", "sign.join(lines)", False), ("__repr__", "'a' + str(self)", False),
                ("__len__", "len(self._bands)", True), ("__len__", "3", True), ("__len__", "self.many", False),
                ("__len__", "True", False), ("__len__", "count_of(self)", False)):
            with self.subTest(name=name, value=value):
                tree = ast.parse(f"class Thing:\n    def {name}(self):\n        return {value}\n")
                self.assertEqual(formless(tree), [] if right else [3])
        self.assertEqual(formless(ast.parse("def __str__(self):\n    if self.a:\n        return 'a'\n")), [3])

    def test_no_other_builtins(self):
        others = set(vars(__builtins__) if not isinstance(__builtins__, dict) else __builtins__)
        others = {each for each in others if each[0].islower()} - BUILTINS
        for name, tree in trees():
            if name == "__main__.py":
                continue
            for node in ast.walk(tree):
                if isinstance(node, ast.Name):
                    self.assertNotIn(node.id, others, f"{name}:{node.lineno}")


if __name__ == "__main__":
    unittest.main()

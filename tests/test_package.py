"""The package as a whole: the interface stands where it is listed, and the files keep to the form of the rules."""

import ast
import os
import unittest

import merestone

FOLDER = os.path.dirname(os.path.abspath(merestone.__file__))

# The modules that have landed, with the functions, classes and values that the interface lists for them.
LISTED = {
    "errors.py": (
        "MerestoneError", "Malformed", "TooLarge", "BadConfig", "BadState", "BadCode", "Trap", "Unknown", "Twice",
        "OutOfRange",
    ),
    "words.py": (
        "is_word", "wrap", "signed", "add", "sub", "mul", "bit_and", "bit_or", "bit_xor", "shift_left", "shift_right",
    ),
    "codes.py": ("OPS", "KERNEL_ONLY", "encode", "decode", "size_of"),
    "steps.py": ("user_step", "carry_out"),
}

# The arguments that the interface gives, by which a caller may also name them.
ARGUMENTS = {
    "words.py": {
        "is_word": ["number"], "wrap": ["number"], "signed": ["word"],
        "add": ["first", "second"], "sub": ["first", "second"], "mul": ["first", "second"],
        "bit_and": ["first", "second"], "bit_or": ["first", "second"], "bit_xor": ["first", "second"],
        "shift_left": ["word", "count"], "shift_right": ["word", "count"],
    },
    "codes.py": {"encode": ["op", "a", "b", "c"], "decode": ["word"], "size_of": ["op"]},
    "steps.py": {
        "user_step": ["registers", "pc", "view"], "carry_out": ["parts", "registers", "pc", "view"],
    },
}


def read(name):
    with open(os.path.join(FOLDER, name), encoding="utf-8", newline="") as file:
        return file.read()


def package_files():
    return sorted(name for name in os.listdir(FOLDER) if name != "__pycache__")


def bound_names(tree):
    """The names that a module itself defines or assigns."""
    found = []
    for node in tree.body:
        if isinstance(node, (ast.FunctionDef, ast.ClassDef)):
            found.append(node.name)
        if isinstance(node, ast.Assign):
            found.extend(target.id for target in node.targets)
    return found


class InterfaceTest(unittest.TestCase):
    def test_every_name_is_defined_in_its_file(self):
        for name, listed in LISTED.items():
            bound = bound_names(ast.parse(read(name)))
            self.assertEqual([each for each in listed if bound.count(each) != 1], [], name)

    def test_arguments_have_their_names(self):
        for name, functions in ARGUMENTS.items():
            nodes = [node for node in ast.parse(read(name)).body if isinstance(node, ast.FunctionDef)]
            found = {node.name: [each.arg for each in node.args.args] for node in nodes}
            self.assertEqual({each: found[each] for each in functions}, functions, name)


class FormTest(unittest.TestCase):
    def test_the_folder_holds_python_files_alone(self):
        for name in package_files():
            self.assertTrue(name.endswith(".py"), name)
            self.assertTrue(os.path.isfile(os.path.join(FOLDER, name)), name)

    def test_files_and_lines_are_short_and_plain(self):
        for name in package_files():
            text = read(name)
            self.assertTrue(all(each == "\n" or " " <= each <= "~" for each in text), name)
            lines = text.split("\n")
            self.assertLessEqual(len(lines) - 1, 399, name)
            self.assertLessEqual(max(len(line) for line in lines), 120, name)

    def test_functions_are_short(self):
        for name in package_files():
            for node in ast.walk(ast.parse(read(name))):
                if isinstance(node, ast.FunctionDef):
                    self.assertLessEqual(node.end_lineno - node.lineno + 1, 40, (name, node.name))

    def test_imports_are_from_the_package_and_name_the_file_that_defines(self):
        for name in package_files():
            for node in ast.walk(ast.parse(read(name))):
                self.assertNotIsInstance(node, ast.Import, name)
                if isinstance(node, ast.ImportFrom):
                    self.assertEqual(node.level, 0, name)
                    self.assertTrue(node.module.startswith("merestone."), name)
                    source = node.module.removeprefix("merestone.") + ".py"
                    bound = bound_names(ast.parse(read(source)))
                    for each in node.names:
                        self.assertIn(each.name, bound, name)


if __name__ == "__main__":
    unittest.main()

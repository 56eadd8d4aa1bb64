"""The package as a whole: the interface stands where it is listed, and the files keep to the form of the rules."""

import ast
import builtins
import os
import unittest

import merestone

FOLDER = os.path.dirname(os.path.abspath(merestone.__file__))

# The modules that have landed, with the functions, classes and values that the interface lists for them.
LISTED = {
    "errors.py": (
        "MerestoneError", "Malformed", "TooLarge", "BadConfig", "BadState", "BadCode", "Trap", "Unknown", "Twice",
        "OutOfRange",
    ),
    "words.py": (
        "is_word", "wrap", "signed", "add", "sub", "mul", "bit_and", "bit_or", "bit_xor", "shift_left", "shift_right",
    ),
    "codes.py": ("OPS", "KERNEL_ONLY", "encode", "decode", "size_of"),
    "steps.py": ("user_step", "carry_out"),
    "machine.py": ("PAGE", "USER_WORDS", "READ", "WRITE", "EXECUTE", "RIGHTS", "Machine", "resumed"),
    "assembling.py": ("Assembly", "assemble"),
    "listing.py": ("listing",),
    "config.py": (
        "Partition", "Config", "page_map", "frame_start", "round_length", "may_flow", "sources_of", "PAGE", "VIRTUAL",
        "GAP", "CALL", "READ", "WRITE", "EXECUTE",
    ),
    "judging.py": ("judge", "count_fault", "shape_fault", "flow_fault"),
    "plain.py": ("Plain", "run_plain"),
    "kernelcode.py": ("kernel_of", "layout_of"),
    "system.py": ("booted", "run_frames", "partition_state", "rest_state", "Watcher"),
    "views.py": ("view", "Book", "histories", "border", "alone"),
    "partings.py": ("parting", "proper_parting"),
    "sources.py": ("Source", "parse_source"),
    "showing.py": ("print_source",),
    "meaning.py": ("run_source",),
    "compiling.py": ("compile_source", "addresses", "pages_for", "partition_of"),
    "saving.py": ("saved_plain", "saved_machine", "loaded_plain", "loaded_machine", "config_of", "restarted"),
    "changing.py": ("can_change", "plain_changed", "machine_changed", "histories_through"),
}

# The arguments that the interface gives, by which a caller may also name them.
ARGUMENTS = {
    "words.py": {
        "is_word": ["number"], "wrap": ["number"], "signed": ["word"],
        "add": ["first", "second"], "sub": ["first", "second"], "mul": ["first", "second"],
        "bit_and": ["first", "second"], "bit_or": ["first", "second"], "bit_xor": ["first", "second"],
        "shift_left": ["word", "count"], "shift_right": ["word", "count"],
    },
    "codes.py": {"encode": ["op", "a", "b", "c"], "decode": ["word"], "size_of": ["op"]},
    "steps.py": {
        "user_step": ["registers", "pc", "view"], "carry_out": ["parts", "registers", "pc", "view"],
    },
    "machine.py": {"resumed": ["state", "rings", "inputs"]},
    "assembling.py": {"assemble": ["text", "base"]},
    "listing.py": {"listing": ["words", "base"]},
    "config.py": {
        "page_map": ["config", "p"], "frame_start": ["config", "number"], "round_length": ["config"],
        "may_flow": ["config", "source", "target"], "sources_of": ["config", "target"],
    },
    "judging.py": {
        "judge": ["config"], "count_fault": ["config"], "shape_fault": ["config"], "flow_fault": ["config"],
    },
    "plain.py": {"run_plain": ["config", "inputs", "count"]},
    "kernelcode.py": {"kernel_of": ["config"], "layout_of": ["config"]},
    "system.py": {
        "booted": ["config", "inputs"], "run_frames": ["machine", "config", "count"],
        "partition_state": ["machine", "config", "p"], "rest_state": ["machine", "config"],
    },
    "views.py": {
        "view": ["plain", "p"], "histories": ["config", "inputs", "count", "book"], "border": ["plain", "p"],
        "alone": ["config", "p", "inputs", "events", "count"],
    },
    "partings.py": {"parting": ["config"], "proper_parting": ["config", "answer"]},
    "sources.py": {"parse_source": ["text"]},
    "showing.py": {"print_source": ["source"]},
    "meaning.py": {"run_source": ["source", "answers", "most"]},
    "compiling.py": {
        "compile_source": ["source"], "addresses": ["source"], "pages_for": ["image"], "partition_of": ["source"],
    },
    "saving.py": {
        "saved_plain": ["plain"], "saved_machine": ["machine", "config"], "loaded_plain": ["numbers", "inputs"],
        "loaded_machine": ["numbers", "inputs"], "config_of": ["numbers"], "restarted": ["numbers", "p"],
    },
    "changing.py": {
        "can_change": ["old", "new"], "plain_changed": ["plain", "config"],
        "machine_changed": ["machine", "old", "new"], "histories_through": ["phases", "inputs", "book"],
    },
}

# The classes that the interface lists, with their methods, and the arguments of each.
METHODS = {
    "machine.py": {
        "Machine": {"__init__": ["self", "memory", "rings", "inputs"], "step": ["self"], "run": ["self", "count"],
                    "state": ["self"]},
    },
    "assembling.py": {"Assembly": {"__init__": ["self", "words", "names"]}},
    "config.py": {
        "Partition": {"__init__": ["self", "image", "pages", "start"], "fields": ["self"], "__eq__": ["self", "other"]},
        "Config": {"__init__": ["self", "partitions", "frames", "channels", "shares", "devices", "flows"],
                   "fields": ["self"], "__eq__": ["self", "other"]},
    },
    "plain.py": {
        "Plain": {"__init__": ["self", "config", "inputs"], "run_frame": ["self"], "state": ["self", "p"],
                  "rest": ["self"], "trace": ["self", "p"]},
    },
    "kernelcode.py": {"Layout": {"page": ["self", "p", "kind", "index"]}},
    "system.py": {"Watcher": {"__init__": ["self", "machine", "config"], "run": ["self", "tick"]}},
    "views.py": {"Book": {"__init__": ["self"], "number": ["self", "key"]}},
    "sources.py": {"Source": {"__init__": ["self", "names", "body"], "__eq__": ["self", "other"]}},
    "errors.py": {
        "Malformed": {"__init__": ["self", "line", "column"]}, "TooLarge": {"__init__": ["self", "limit"]},
        "BadConfig": {"__init__": ["self", "fault"]}, "BadState": {"__init__": ["self", "why"]},
    },
}


def read(name):
    with open(os.path.join(FOLDER, name), encoding="utf-8", newline="") as file:
        return file.read()


def package_files():
    return sorted(name for name in os.listdir(FOLDER) if name != "__pycache__")


def bound_names(tree):
    """The names that a module itself defines or assigns."""
    found = []
    for node in tree.body:
        if isinstance(node, (ast.FunctionDef, ast.ClassDef)):
            found.append(node.name)
        if isinstance(node, ast.Assign):
            found.extend(target.id for target in node.targets)
    return found


class InterfaceTest(unittest.TestCase):
    def test_every_name_is_defined_in_its_file(self):
        for name, listed in LISTED.items():
            bound = bound_names(ast.parse(read(name)))
            self.assertEqual([each for each in listed if bound.count(each) != 1], [], name)

    def test_arguments_have_their_names(self):
        for name, functions in ARGUMENTS.items():
            nodes = [node for node in ast.parse(read(name)).body if isinstance(node, ast.FunctionDef)]
            found = {node.name: [each.arg for each in node.args.args] for node in nodes}
            self.assertEqual({each: found[each] for each in functions}, functions, name)


    def test_methods_stand_in_their_classes_with_their_arguments(self):
        for name, classes in METHODS.items():
            nodes = {node.name: node for node in ast.parse(read(name)).body if isinstance(node, ast.ClassDef)}
            for each, methods in classes.items():
                bodies = [node for node in nodes[each].body if isinstance(node, ast.FunctionDef)]
                found = {node.name: [arg.arg for arg in node.args.args] for node in bodies}
                self.assertEqual({method: found.get(method) for method in methods}, methods, (name, each))


class FormTest(unittest.TestCase):
    def test_the_folder_holds_python_files_alone(self):
        for name in package_files():
            self.assertTrue(name.endswith(".py"), name)
            self.assertTrue(os.path.isfile(os.path.join(FOLDER, name)), name)

    def test_files_and_lines_are_short_and_plain(self):
        for name in package_files():
            text = read(name)
            self.assertTrue(all(each == "\n" or " " <= each <= "~" for each in text), name)
            lines = text.split("\n")
            self.assertLessEqual(len(lines) - 1, 399, name)
            self.assertLessEqual(max(len(line) for line in lines), 120, name)

    def test_functions_are_short(self):
        for name in package_files():
            for node in ast.walk(ast.parse(read(name))):
                if isinstance(node, ast.FunctionDef):
                    self.assertLessEqual(node.end_lineno - node.lineno + 1, 40, (name, node.name))

    def test_imports_are_from_the_package_and_name_the_file_that_defines(self):
        for name in package_files():
            for node in ast.walk(ast.parse(read(name))):
                self.assertNotIsInstance(node, ast.Import, name)
                if isinstance(node, ast.ImportFrom):
                    self.assertEqual(node.level, 0, name)
                    self.assertTrue(node.module.startswith("merestone."), name)
                    source = node.module.removeprefix("merestone.") + ".py"
                    bound = bound_names(ast.parse(read(source)))
                    for each in node.names:
                        self.assertIn(each.name, bound, name)

    def test_names_are_bound_once_and_are_no_builtins(self):
        for name in package_files():
            bound = bound_names(ast.parse(read(name)))
            self.assertEqual(len(bound), len(set(bound)), name)
            for node in ast.walk(ast.parse(read(name))):
                if isinstance(node, (ast.FunctionDef, ast.ClassDef)) and not node.name.startswith("__"):
                    self.assertFalse(hasattr(builtins, node.name), (name, node.name))
                if isinstance(node, ast.Name) and isinstance(node.ctx, ast.Store):
                    self.assertFalse(hasattr(builtins, node.id), (name, node.id))
                if isinstance(node, ast.arg):
                    self.assertFalse(hasattr(builtins, node.arg), (name, node.arg))

    def test_what_the_subset_leaves_out(self):
        left_out = (
            ast.GeneratorExp, ast.Set, ast.SetComp, ast.Global, ast.AsyncFunctionDef, ast.Await, ast.Div, ast.Lambda,
        )
        for name in package_files():
            for node in ast.walk(ast.parse(read(name))):
                self.assertNotIsInstance(node, left_out, name)
                if isinstance(node, ast.Constant):
                    self.assertNotIsInstance(node.value, (float, complex), name)
                    self.assertFalse(isinstance(node.value, str) and "%" in node.value, name)
                if isinstance(node, ast.FunctionDef):
                    self.assertEqual(node.decorator_list, [], name)

    def test_no_file_imports_from_itself_over_others(self):
        imports = {}
        for name in package_files():
            nodes = [node for node in ast.parse(read(name)).body if isinstance(node, ast.ImportFrom)]
            imports[name] = [node.module.removeprefix("merestone.") + ".py" for node in nodes]
        order = []
        while len(order) < len(imports):
            ready = [name for name in imports if name not in order and all(each in order for each in imports[name])]
            self.assertNotEqual(ready, [])
            order.extend(ready)


if __name__ == "__main__":
    unittest.main()

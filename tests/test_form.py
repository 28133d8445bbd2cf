"""The form of the package: its files, their sizes and imports, and that the interface stands where it is listed."""

import ast
import pathlib
import unittest

PACKAGE = pathlib.Path(__file__).resolve().parent.parent / "allknow"

# File, then name, then the arguments; a method stands behind its class and a dot.
INTERFACE = {
    "errors.py": {"KnowError": None},
    "networks.py": {
        "BadNetwork": None, "NoNode": None, "NoSet": None, "NoLink": None, "NoMessage": None, "Network": None,
        "BadNetwork.__init__": ["self", "part", "number", "reason"],
        "Network.__init__": ["self", "variables", "nodes", "links"],
        "Network.node_letters": ["self"], "Network.variable_letters": ["self"],
        "Network.messages": ["self", "node"], "Network.all_messages": ["self"],
        "is_message": ["variables", "text"], "is_link": ["nodes", "text"], "node_number": ["network", "node"],
    },
    "texts.py": {
        "BadText": None, "TooLong": None, "BadOrder": None, "BadText.__init__": ["self", "position"],
        "read_network": ["text"], "write_network": ["network"], "relabelled": ["network", "order"],
        "is_same": ["first", "second"], "isomorphism": ["first", "second"],
    },
    "spans.py": {
        "BadParity": None, "BadParity.__init__": ["self", "text"],
        "message_rank": ["messages"], "is_derived": ["messages", "parity"], "basis": ["messages"],
        "combination": ["messages", "parity"], "separating": ["variables", "messages", "parity"],
        "redundant": ["messages"], "is_equivalent": ["first", "second"], "odd_ones": ["messages", "assignment"],
        "assignments": ["variables", "messages", "told"],
    },
    "steps.py": {
        "Fault": None, "Fault.__init__": ["self", "number"],
        "fault": ["network", "steps"], "ranks": ["network", "steps"], "informed": ["network", "steps"],
        "known": ["network", "steps", "node"], "earliest": ["network", "steps", "node", "parity"],
        "carried": ["network", "steps", "assignment"], "idle_steps": ["network", "steps"],
        "reduced": ["network", "steps"], "can_swap": ["network", "steps", "number"],
    },
    "node_sets.py": {
        "NotFeasible": None,
        "deficient_sets": ["network"], "tight_sets": ["network"], "first_deficient": ["network"],
        "node_set": ["network", "nodes"], "around": ["network", "node"], "without": ["network", "node", "other"],
        "can_carry": ["network", "link"],
    },
    "schedules.py": {
        "first_schedule": ["network"], "is_complete": ["network", "transmissions"],
        "next_transmissions": ["network", "transmissions"], "schedule_fault": ["network", "transmissions"],
        "holdings": ["network", "transmissions"], "tree": ["network", "transmissions", "origin", "index"],
        "time_slots": ["network", "transmissions"],
    },
}

LIBRARY = {
    "heapq": {"heappush", "heappop", "heapify", "heapreplace", "heappushpop"},
    "math": {"gcd", "lcm", "isqrt", "comb", "perm", "factorial"},
    "itertools": {"product", "combinations", "permutations", "chain", "accumulate", "pairwise", "islice",
                  "zip_longest"},
    "collections": {"defaultdict", "deque"},
}


def files():
    """The files of the package, each with what is written in it."""
    return [(path, path.read_text(encoding="utf-8")) for path in sorted(PACKAGE.glob("**/*.py"))]


def defined(tree):
    """The functions, classes and methods that a file defines, each with its arguments."""
    found = {}
    for node in tree.body:
        if isinstance(node, ast.FunctionDef):
            found[node.name] = [argument.arg for argument in node.args.args]
        if isinstance(node, ast.ClassDef):
            found[node.name] = None
            for part in node.body:
                if isinstance(part, ast.FunctionDef):
                    found[f"{node.name}.{part.name}"] = [argument.arg for argument in part.args.args]
    return found


class Form(unittest.TestCase):
    def test_the_package_holds_python_files_alone(self):
        for path in PACKAGE.glob("**/*"):
            if "__pycache__" not in path.parts and path.is_file():
                self.assertEqual(path.suffix, ".py", path)

    def test_sizes(self):
        for path, text in files():
            lines = text.splitlines()
            with self.subTest(file=path.name):
                self.assertLess(len(lines), 400)
                self.assertLessEqual(max([len(line) for line in lines], default=0), 120)
            for node in ast.walk(ast.parse(text)):
                if isinstance(node, ast.FunctionDef):
                    with self.subTest(file=path.name, function=node.name):
                        self.assertLessEqual(node.end_lineno - node.lineno + 1, 40)

    def test_characters(self):
        for path, text in files():
            with self.subTest(file=path.name):
                self.assertEqual([sign for sign in text if sign != "\n" and not " " <= sign <= "~"], [])

    def test_imports(self):
        for path, text in files():
            for node in ast.walk(ast.parse(text)):
                with self.subTest(file=path.name):
                    self.assertNotIsInstance(node, ast.Import)
                    if isinstance(node, ast.ImportFrom):
                        self.check_import(node)

    def check_import(self, node):
        self.assertEqual(node.level, 0)
        names = {alias.name for alias in node.names}
        if node.module in LIBRARY:
            self.assertLessEqual(names, LIBRARY[node.module])
            return
        package, _, module = node.module.partition(".")
        self.assertEqual(package, "allknow")
        tree = ast.parse((PACKAGE / f"{module}.py").read_text(encoding="utf-8"))
        constants = {target.id for line in tree.body if isinstance(line, ast.Assign) for target in line.targets}
        self.assertLessEqual(names, constants | set(defined(tree)))

    def test_the_interface_stands_where_it_is_listed(self):
        for name, listed in INTERFACE.items():
            found = defined(ast.parse((PACKAGE / name).read_text(encoding="utf-8")))
            for word, arguments in listed.items():
                with self.subTest(file=name, name=word):
                    self.assertIn(word, found)
                    self.assertEqual(found[word], arguments)

    def test_each_file_says_what_it_is(self):
        for path, text in files():
            with self.subTest(file=path.name):
                self.assertTrue(ast.get_docstring(ast.parse(text)))


if __name__ == "__main__":
    unittest.main()

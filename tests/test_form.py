"""The form of the package: its files, their sizes and imports, and that the interface stands where it is listed."""

import ast
import builtins
import pathlib
import unittest

PACKAGE = pathlib.Path(__file__).resolve().parent.parent / "allknow"

# File, then name, then the arguments; a method stands behind its class and a dot.
INTERFACE = {
    "errors.py": {"KnowError": None},
    "networks.py": {
        "BadNetwork": None, "NoNode": None, "NoSet": None, "NoLink": None, "NoMessage": None, "Network": None,
        "BadNetwork.__init__": ["self", "part", "number", "reason"],
        "Network.__init__": ["self", "variables", "nodes", "links"],
        "Network.node_letters": ["self"], "Network.variable_letters": ["self"],
        "Network.messages": ["self", "node"], "Network.all_messages": ["self"],
        "is_message": ["variables", "text"], "is_link": ["nodes", "text"], "node_number": ["network", "node"],
    },
    "texts.py": {
        "BadText": None, "TooLong": None, "BadOrder": None, "BadText.__init__": ["self", "position"],
        "read_network": ["text"], "write_network": ["network"], "relabelled": ["network", "order"],
        "is_same": ["first", "second"], "isomorphism": ["first", "second"],
    },
    "spans.py": {
        "BadParity": None, "BadParity.__init__": ["self", "text"],
        "message_rank": ["messages"], "is_derived": ["messages", "parity"], "basis": ["messages"],
        "combination": ["messages", "parity"], "separating": ["variables", "messages", "parity"],
        "redundant": ["messages"], "is_equivalent": ["first", "second"], "odd_ones": ["messages", "assignment"],
        "assignments": ["variables", "messages", "told"],
    },
    "steps.py": {
        "Fault": None, "Fault.__init__": ["self", "number"],
        "fault": ["network", "steps"], "ranks": ["network", "steps"], "informed": ["network", "steps"],
        "known": ["network", "steps", "node"], "earliest": ["network", "steps", "node", "parity"],
        "carried": ["network", "steps", "assignment"], "idle_steps": ["network", "steps"],
        "reduced": ["network", "steps"], "can_swap": ["network", "steps", "number"],
    },
    "node_sets.py": {
        "NotFeasible": None,
        "deficient_sets": ["network"], "tight_sets": ["network"], "first_deficient": ["network"],
        "node_set": ["network", "nodes"], "around": ["network", "node"], "without": ["network", "node", "other"],
        "can_carry": ["network", "link"],
    },
    "schedules.py": {
        "first_schedule": ["network"], "is_complete": ["network", "transmissions"],
        "next_transmissions": ["network", "transmissions"], "schedule_fault": ["network", "transmissions"],
        "holdings": ["network", "transmissions"], "tree": ["network", "transmissions", "origin", "index"],
        "time_slots": ["network", "transmissions"],
    },
    "formulas.py": {
        "BadFormula": None, "BadFormula.__init__": ["self", "position"], "TooLong": None, "TooManyInputs": None,
        "Formula": None, "Formula.__init__": ["self", "text"], "Formula.indices": ["self"],
        "Formula.value": ["self", "bits"], "Formula.normal": ["self"], "normal_text": ["text"],
    },
    "protocols.py": {
        "BadStep": None, "BadStep.__init__": ["self", "number", "reason"],
        "Relay": None, "Relay.__init__": ["self", "network", "steps"], "Relay.outputs": ["self", "assignment"],
        "Relay.observations": ["self", "node", "assignment"], "Relay.decoders": ["self"],
        "Relay.confused": ["self", "nodes"], "routed": ["network", "transmissions"],
    },
    "injections.py": {
        "BadCounts": None, "NotDisjoint": None,
        "minimum_counts": ["network"], "certificate": ["network"], "deficient_set": ["network", "counts"],
        "reduced_counts": ["network", "counts"], "lower_bound": ["network", "sets"],
        "injections": ["network", "counts"],
    },
    "failures.py": {
        "NothingSent": None, "tolerance": ["network"], "needed_links": ["network"], "smallest_failure": ["network"],
        "schedule_without": ["network", "links"],
        "AdaptiveSchedule": None, "AdaptiveSchedule.__init__": ["self", "network"],
        "AdaptiveSchedule.choice": ["self"], "AdaptiveSchedule.tell": ["self", "arrived"],
        "AdaptiveSchedule.lost": ["self"], "AdaptiveSchedule.deficient": ["self"],
    },
    "changes.py": {
        "BadCosts": None, "BadWeights": None, "BadWeights.__init__": ["self", "number"],
        "is_feasible": ["network"], "reduced": ["network"], "with_link": ["network", "link"],
        "helping_links": ["network"], "with_message": ["network", "node", "message"],
        "removable_messages": ["network"], "cheapest": ["network", "costs"], "bound": ["network", "costs", "weights"],
    },
    "targets.py": {
        "NoTarget": None, "first_set": ["network", "targets"], "is_feasible_for": ["network", "targets"],
        "feasible_alone": ["network", "targets"], "critical_links": ["network", "targets"],
        "delivery": ["network", "targets", "target"], "is_complete_for": ["network", "targets", "transmissions"],
    },
    "sessions.py": {
        "BadEvent": None, "BadEvent.__init__": ["self", "reason"],
        "Rejected": None, "Rejected.__init__": ["self", "number"],
        "Session": None, "Session.__init__": ["self", "network"], "Session.record": ["self", "event"],
        "Session.undo": ["self"], "Session.remaining": ["self"], "Session.first_deficient": ["self"],
        "Session.next_transmission": ["self"], "Session.holdings": ["self", "node"],
        "Session.knows": ["self", "node", "parity"], "Session.can_lose": ["self", "link"], "Session.links": ["self"],
        "Session.network": ["self"], "Session.journal": ["self"], "replayed": ["network", "events"],
    },
}

LIBRARY = {
    "heapq": {"heappush", "heappop", "heapify", "heapreplace", "heappushpop"},
    "math": {"gcd", "lcm", "isqrt", "comb", "perm", "factorial"},
    "itertools": {"product", "combinations", "permutations", "chain", "accumulate", "pairwise", "islice",
                  "zip_longest"},
    "collections": {"defaultdict", "deque"},
}

BUILTINS = set("""len range enumerate zip min max sum abs sorted reversed int str bool list tuple dict set isinstance ord repr
any all divmod iter next Exception ValueError TypeError KeyError IndexError LookupError""".split())

BUILTIN_METHODS = set("""append clear copy count endswith extend find get index insert isalnum isalpha isdigit islower
isspace isupper items join keys ljust lower lstrip partition pop remove replace reverse rfind rjust rpartition rsplit rstrip
setdefault split splitlines startswith strip update upper values zfill bit_length add discard""".split())

BARRED = set("""register mro elements open input law version_info with_traceback add_note attrgetter breakpoint compile
copyright credits delattr dir eval exec exit gc getattr globals hasattr help id importlib license locals methodcaller os quit
setattr super type vars sys""".split())

STATEMENTS = (ast.Assign, ast.AugAssign, ast.If, ast.While, ast.For, ast.Return, ast.Raise, ast.Delete, ast.Try, ast.Expr,
              ast.Pass, ast.Break, ast.Continue, ast.FunctionDef, ast.ClassDef, ast.ImportFrom)


def files():
    """The files of the package, each with what is written in it."""
    return [(path, path.read_text(encoding="utf-8")) for path in sorted(PACKAGE.glob("**/*.py"))]


def defined(tree):
    """The functions, classes and methods that a file defines, each with its arguments."""
    found = {}
    for node in tree.body:
        if isinstance(node, ast.FunctionDef):
            found[node.name] = [argument.arg for argument in node.args.args]
        if isinstance(node, ast.ClassDef):
            found[node.name] = None
            for part in node.body:
                if isinstance(part, ast.FunctionDef):
                    found[f"{node.name}.{part.name}"] = [argument.arg for argument in part.args.args]
    return found


class Form(unittest.TestCase):
    def test_the_package_holds_python_files_alone(self):
        for path in PACKAGE.glob("**/*"):
            if "__pycache__" not in path.parts and path.is_file():
                self.assertEqual(path.suffix, ".py", path)

    def test_sizes(self):
        for path, text in files():
            lines = text.splitlines()
            with self.subTest(file=path.name):
                self.assertLess(len(lines), 400)
                self.assertLessEqual(max([len(line) for line in lines], default=0), 120)
            for node in ast.walk(ast.parse(text)):
                if isinstance(node, ast.FunctionDef):
                    with self.subTest(file=path.name, function=node.name):
                        self.assertLessEqual(node.end_lineno - node.lineno + 1, 40)

    def test_characters(self):
        for path, text in files():
            with self.subTest(file=path.name):
                self.assertEqual([sign for sign in text if sign != "\n" and not " " <= sign <= "~"], [])

    def test_imports(self):
        for path, text in files():
            for node in ast.walk(ast.parse(text)):
                with self.subTest(file=path.name):
                    self.assertNotIsInstance(node, ast.Import)
                    if isinstance(node, ast.ImportFrom):
                        self.check_import(node)

    def check_import(self, node):
        self.assertEqual(node.level, 0)
        names = {alias.name for alias in node.names}
        if node.module in LIBRARY:
            self.assertLessEqual(names, LIBRARY[node.module])
            return
        package, _, module = node.module.partition(".")
        self.assertEqual(package, "allknow")
        tree = ast.parse((PACKAGE / f"{module}.py").read_text(encoding="utf-8"))
        constants = {target.id for line in tree.body if isinstance(line, ast.Assign) for target in line.targets}
        self.assertLessEqual(names, constants | set(defined(tree)))

    def test_statements_and_expressions(self):
        for path, text in files():
            for node in ast.walk(ast.parse(text)):
                with self.subTest(file=path.name, line=getattr(node, "lineno", None)):
                    if isinstance(node, ast.stmt):
                        self.assertIsInstance(node, STATEMENTS)
                    if isinstance(node, ast.Constant):
                        self.assertNotIsInstance(node.value, (float, complex, bytes))
                    self.assertNotIsInstance(node, (ast.Div, ast.Await, ast.Starred, ast.NamedExpr))
                    self.assertEqual(getattr(node, "decorator_list", []), [])

    def test_names(self):
        for path, text in files():
            for node in ast.walk(ast.parse(text)):
                name = getattr(node, "id", None) or getattr(node, "attr", None) or getattr(node, "arg", None)
                if isinstance(name, str):
                    with self.subTest(file=path.name, line=getattr(node, "lineno", None)):
                        self.assertNotIn(name, BARRED)
                if isinstance(node, ast.Name) and hasattr(builtins, node.id):
                    with self.subTest(file=path.name, line=node.lineno):
                        self.assertIn(node.id, BUILTINS)
                        self.assertIsInstance(node.ctx, ast.Load)

    def test_names_of_one_file_mean_one_thing(self):
        for path, text in files():
            tree = ast.parse(text)
            fixed = {alias.name for node in tree.body if isinstance(node, ast.ImportFrom) for alias in node.names}
            fixed |= {node.name for node in tree.body if isinstance(node, (ast.ClassDef, ast.FunctionDef))}
            for node in ast.walk(tree):
                with self.subTest(file=path.name, line=getattr(node, "lineno", None)):
                    if isinstance(node, ast.arg):
                        self.assertNotIn(node.arg, fixed)
                    if isinstance(node, ast.Name) and isinstance(node.ctx, ast.Store):
                        self.assertNotIn(node.id, fixed)

    def test_methods(self):
        own = set()
        for path, text in files():
            own |= {name.partition(".")[2] for name in defined(ast.parse(text)) if "." in name}
        for path, text in files():
            for node in ast.walk(ast.parse(text)):
                if isinstance(node, ast.Call) and isinstance(node.func, ast.Attribute):
                    with self.subTest(file=path.name, line=node.lineno):
                        self.assertIn(node.func.attr, own | BUILTIN_METHODS)

    def test_no_file_imports_itself_through_others(self):
        imports = {}
        for path, text in files():
            imports[path.stem] = {node.module.partition(".")[2] for node in ast.walk(ast.parse(text))
                                  if isinstance(node, ast.ImportFrom) and node.module.startswith("allknow.")}
        for name in imports:
            reached, waiting = set(), [name]
            while waiting:
                for other in imports[waiting.pop()] - reached:
                    reached.add(other)
                    waiting.append(other)
            self.assertNotIn(name, reached)

    def test_the_interface_stands_where_it_is_listed(self):
        for name, listed in INTERFACE.items():
            found = defined(ast.parse((PACKAGE / name).read_text(encoding="utf-8")))
            for word, arguments in listed.items():
                with self.subTest(file=name, name=word):
                    self.assertIn(word, found)
                    self.assertEqual(found[word], arguments)

    def test_each_file_says_what_it_is(self):
        for path, text in files():
            with self.subTest(file=path.name):
                self.assertTrue(ast.get_docstring(ast.parse(text)))


if __name__ == "__main__":
    unittest.main()

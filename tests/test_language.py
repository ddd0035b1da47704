"""The package keeps to the small part of Python in which it is written (as far as these checks can see)."""

import ast
import builtins
import pathlib
import re
import unittest

PACKAGE = pathlib.Path(__file__).resolve().parent.parent / "surelyseen"
LIBRARY = {
    "heapq": {"heappush", "heappop", "heapify", "heapreplace", "heappushpop"},
    "math": {"gcd", "lcm", "isqrt", "comb", "perm", "factorial"},
    "collections": {"defaultdict", "deque"},
}
BUILTINS = set(
    "len range enumerate zip min max sum abs sorted reversed int str bool list tuple dict set isinstance ord repr any all "
    "divmod pow map iter next Exception ValueError TypeError KeyError IndexError LookupError ZeroDivisionError "
    "NotImplemented StopIteration".split()
)
METHODS = set(
    "append clear copy count endswith extend find get index insert isalnum isalpha isdigit islower isspace isupper items "
    "join keys ljust lower lstrip partition pop remove replace reverse rfind rjust rpartition rsplit rstrip setdefault "
    "split splitlines startswith strip update upper values zfill bit_length add discard".split()
)
DOUBLE = set(
    "__init__ __eq__ __len__ __iter__ __and__ __contains__".split()
)
BARRED = set(
    "mro elements open input law version_info with_traceback add_note register attrgetter breakpoint compile delattr dir "
    "eval exec exit gc getattr globals hasattr help importlib locals methodcaller os setattr super type vars sys".split()
)
BARRED_ATTRIBUTES = set(
    "items keys values pop update append clear extend insert remove reverse setdefault sort args encode decode hex fromhex "
    "format format_map mro".split()
)
NODES = (
    ast.GeneratorExp, ast.AsyncFunctionDef, ast.Await, ast.Global, ast.Yield, ast.YieldFrom, ast.Set, ast.With,
    ast.Match, ast.Div, ast.AnnAssign,
)


def all_files():
    return sorted(PACKAGE.rglob("*"))


def sources():
    return [(path, ast.parse(path.read_text())) for path in all_files() if path.suffix == ".py"]


def own_names(tree, kinds):
    return {node.name for node in ast.walk(tree) if isinstance(node, kinds)}


def bound_names(function):
    """The parameters and local variables of a function."""
    found = {arg.arg for node in ast.walk(function) if isinstance(node, ast.arguments)
             for arg in node.posonlyargs + node.args + node.kwonlyargs}
    return found | {node.id for node in ast.walk(function) if isinstance(node, ast.Name) and not isinstance(node.ctx, ast.Load)}


CHANGING = set("append clear extend insert pop remove reverse setdefault update add discard sort".split())
LOOPS = (ast.For, ast.ListComp, ast.SetComp, ast.DictComp)


def root_of(node):
    """The name of a variable, or "." and the name of an attribute, through items and choices of it."""
    while isinstance(node, (ast.Subscript, ast.Starred)):
        node = node.value
    if isinstance(node, ast.Attribute):
        return "." + node.attr
    return node.id if isinstance(node, ast.Name) else None


def choices_of(node):
    """The expressions, one of which an expression gives: itself, or those of a choice."""
    if isinstance(node, ast.IfExp):
        return choices_of(node.body) + choices_of(node.orelse)
    if isinstance(node, ast.BoolOp):
        return [choice for part in node.values for choice in choices_of(part)]
    return [node]


def walked_by(node):
    """What an expression behind the `in` of a loop goes over, also through enumerate, zip, items and the like."""
    found = []
    for choice in choices_of(node):
        if isinstance(choice, ast.Call):
            if isinstance(choice.func, ast.Attribute) and choice.func.attr in ("items", "keys", "values"):
                found += walked_by(choice.func.value)
            elif isinstance(choice.func, ast.Name) and choice.func.id in ("enumerate", "zip", "reversed", "iter", "map"):
                found += [root for arg in choice.args for root in walked_by(arg)]
        elif root_of(choice) is not None:
            found.append(root_of(choice))
    return found


def twins_of(function):
    """For each name of a function the names that may stand for the same list, because one is given the other."""
    pairs = []
    for node in ast.walk(function):
        if isinstance(node, ast.Assign):
            for target in node.targets:
                both = [(target, node.value)]
                if isinstance(target, ast.Tuple) and isinstance(node.value, ast.Tuple):
                    both = list(zip(target.elts, node.value.elts))
                pairs += [(root_of(one), root_of(choice)) for one, other in both for choice in choices_of(other)]
    twins = {}
    for one, other in pairs:
        if one is not None and other is not None:
            both = twins.get(one, {one}) | twins.get(other, {other})
            for name in both:
                twins[name] = both
    return twins


def changed_in(nodes):
    """The roots of what statements or expressions change, each with its line."""
    found = []
    for node in (part for one in nodes for part in ast.walk(one)):
        if isinstance(node, ast.Call) and isinstance(node.func, ast.Attribute) and node.func.attr in CHANGING:
            found.append((root_of(node.func.value), node.lineno))
        if isinstance(node, ast.Call) and isinstance(node.func, ast.Name) and node.func.id.startswith("heap"):
            found.append((root_of(node.args[0]), node.lineno))
        if isinstance(node, ast.Subscript) and not isinstance(node.ctx, ast.Load):
            found.append((root_of(node.value), node.lineno))
        if isinstance(node, ast.AugAssign):
            found.append((root_of(node.target), node.lineno))
    return found


def changes_of_what_is_walked(function):
    """The lines in which a loop of a function changes what it goes over (L23), by any name for it."""
    twins = twins_of(function)
    found = []
    for node in ast.walk(function):
        if isinstance(node, LOOPS):
            parts = [node] if isinstance(node, ast.For) else node.generators
            walked = {name for part in parts for root in walked_by(part.iter) for name in twins.get(root, {root})}
            body = node.body if isinstance(node, ast.For) else [node]
            found += [line for root, line in changed_in(body) if root in walked]
    return found


class LanguageTest(unittest.TestCase):
    def test_files(self):
        for path in all_files():
            if "__pycache__" not in path.parts:
                self.assertRegex(path.name, r"\A(__init__|__main__|[a-z][a-z0-9_]*)\.py\Z")
        self.assertLessEqual(len(sources()), 100)

    def test_characters_and_sizes(self):
        for path, tree in sources():
            text = path.read_text()
            lines = text.split("\n")
            self.assertTrue(all(" " <= sign <= "~" or sign == "\n" for sign in text), path)
            self.assertLessEqual(max(len(line) for line in lines), 120, path)
            self.assertLessEqual(len(lines), 399, path)
            for node in ast.walk(tree):
                if isinstance(node, ast.FunctionDef):
                    self.assertLessEqual(node.end_lineno - node.lineno + 1, 40, (path, node.name))

    def test_module_level(self):
        for path, tree in sources():
            names = []
            for place, node in enumerate(tree.body):
                docstring = place == 0 and isinstance(node, ast.Expr) and isinstance(node.value, ast.Constant)
                self.assertTrue(
                    docstring or isinstance(node, (ast.ImportFrom, ast.FunctionDef, ast.ClassDef, ast.Assign)), (path, node.lineno)
                )
                if isinstance(node, ast.ImportFrom):
                    names += [alias.name for alias in node.names]
                elif isinstance(node, ast.Assign):
                    self.assertEqual(len(node.targets), 1)
                    names.append(node.targets[0].id)
                elif not docstring:
                    names.append(node.name)
            self.assertEqual(len(set(names)), len(names), path)
            self.assertFalse(set(names) & set(dir(builtins)), path)

    def test_imports(self):
        defined = {path.stem: {node.name for node in tree.body if isinstance(node, (ast.FunctionDef, ast.ClassDef))} |
                   {node.targets[0].id for node in tree.body if isinstance(node, ast.Assign)} for path, tree in sources()}
        below = {}
        for path, tree in sources():
            below[path.stem] = set()
            for node in ast.walk(tree):
                self.assertNotIsInstance(node, ast.Import, path)
                if isinstance(node, ast.ImportFrom):
                    self.assertIn(node, tree.body)
                    self.assertEqual(node.level, 0)
                    self.assertTrue(all(alias.asname is None for alias in node.names))
                    allowed = LIBRARY.get(node.module)
                    if allowed is None:
                        package, name = node.module.split(".")
                        self.assertEqual(package, "surelyseen")
                        allowed = defined[name]
                        below[path.stem].add(name)
                    self.assertLessEqual({alias.name for alias in node.names}, allowed, path)
        while below:
            free = [name for name, needed in below.items() if not needed & set(below)]
            self.assertTrue(free, f"files that import from each other: {sorted(below)}")
            for name in free:
                del below[name]

    def test_statements_and_expressions(self):
        errors = own_names(ast.parse((PACKAGE / "errors.py").read_text()), ast.ClassDef)
        for path, tree in sources():
            for node in ast.walk(tree):
                where = (path.name, getattr(node, "lineno", 0))
                self.assertNotIsInstance(node, NODES, where)
                if isinstance(node, (ast.FunctionDef, ast.ClassDef)):
                    self.assertEqual(node.decorator_list, [], where)
                if isinstance(node, ast.FunctionDef):
                    self.assertTrue(node.returns is None and node.args.vararg is None and node.args.kwarg is None, where)
                    if node.name.startswith("__"):
                        self.assertIn(node.name, DOUBLE, where)
                if isinstance(node, ast.Constant):
                    self.assertNotIsInstance(node.value, (float, complex, bytes), where)
                    if isinstance(node.value, str):
                        self.assertNotIn("%", node.value, where)
                        self.assertNotRegex(node.value, r"\A__.*__\Z", where)
                if isinstance(node, ast.Pow):
                    self.fail(where)
                if isinstance(node, ast.Try):
                    self.assertEqual((node.finalbody, node.orelse), ([], []), where)
                    for handler in node.handlers:
                        self.assertIn(handler.type.id, errors, where)
                if isinstance(node, ast.Compare) and any(isinstance(op, (ast.Is, ast.IsNot)) for op in node.ops):
                    self.assertTrue(all(isinstance(one, ast.Constant) for one in node.comparators), where)
                if isinstance(node, ast.Raise) and node.exc is not None:
                    self.assertIsInstance(node.exc, ast.Call, where)

    def test_names(self):
        for path, tree in sources():
            fixed = own_names(tree, ast.ClassDef)
            fixed |= {alias.name for node in tree.body if isinstance(node, ast.ImportFrom) for alias in node.names}
            functions = own_names(tree, ast.FunctionDef)
            for node in ast.walk(tree):
                if isinstance(node, (ast.FunctionDef, ast.Lambda)):
                    names = bound_names(node)
                    self.assertFalse(names & (fixed | set(dir(builtins)) | BARRED), (path.name, node.lineno))
                    for name in names - {"_"}:
                        self.assertRegex(name, r"\A_?[A-Za-z][A-Za-z0-9_]*\Z")
                if isinstance(node, ast.Name) and isinstance(node.ctx, ast.Load):
                    self.assertNotEqual(node.id, "_", (path.name, node.lineno))
                    if node.id in dir(builtins):
                        self.assertIn(node.id, BUILTINS, (path.name, node.lineno))
            self.assertFalse(functions & (BARRED | set(dir(builtins))), path)

    def test_methods_and_attributes(self):
        methods, assigned = set(), set()
        for _, tree in sources():
            for node in ast.walk(tree):
                if isinstance(node, ast.ClassDef):
                    methods |= {part.name for part in node.body if isinstance(part, ast.FunctionDef)}
                if isinstance(node, ast.Attribute) and isinstance(node.ctx, ast.Store):
                    assigned.add(node.attr)
        self.assertFalse(methods & assigned)
        self.assertFalse(assigned & BARRED_ATTRIBUTES)
        for path, tree in sources():
            called = {node.func for node in ast.walk(tree) if isinstance(node, ast.Call)}
            for node in ast.walk(tree):
                if isinstance(node, ast.Attribute) and isinstance(node.ctx, ast.Load):
                    known = METHODS | methods if node in called else assigned
                    self.assertIn(node.attr, known, (path.name, node.lineno))

    def test_sets_and_views_are_used_on_the_spot(self):
        for path, tree in sources():
            parents = {child: node for node in ast.walk(tree) for child in ast.iter_child_nodes(node)}
            for node in ast.walk(tree):
                where = (path.name, getattr(node, "lineno", 0))
                name = node.func.id if isinstance(node, ast.Call) and isinstance(node.func, ast.Name) else None
                if name == "set" or isinstance(node, ast.SetComp):
                    parent = parents[node]
                    self.assertTrue(
                        (isinstance(parent, ast.Call) and parent.func.id in ("len", "sorted")) or
                        (isinstance(parent, ast.Compare)), where
                    )
                if name in ("zip", "enumerate", "reversed", "range", "map"):
                    self.assertIsInstance(parents[node], (ast.For, ast.comprehension, ast.Call), where)
                if isinstance(node, ast.For):
                    self.assertNotIsInstance(node.iter, ast.IfExp, where)

    def test_what_a_loop_walks_is_not_changed_in_it(self):
        for path, tree in sources():
            for node in ast.walk(tree):
                if isinstance(node, ast.FunctionDef):
                    self.assertEqual(changes_of_what_is_walked(node), [], (path.name, node.name))

    def test_the_check_of_loops_sees_every_name_for_a_list(self):
        layers = "def f(front):\n while front:\n  further = []\n  for k in front:\n   further.append(k)\n  front = further\n"
        wrong = [
            layers, "def f(a):\n for k in a:\n  a.append(k)\n", "def f(a):\n b = a\n for k in enumerate(b):\n  a[0] = k\n",
            "def f(s):\n for k in s.rows:\n  s.rows.pop()\n", "def f(a, b):\n for k in a or b:\n  del b[0]\n",
            "def f(a, b):\n c, d = a, b\n for k in zip(d, c):\n  b += [k]\n", "def f(d):\n for k, v in d.items():\n  d[k] = 0\n",
            "def f(a, b, c):\n d = a if c else b\n for k in b:\n  d.append(k)\n", "def f(a):\n return [a.pop() for k in a]\n",
        ]
        right = [
            "def f(a):\n for k in list(a):\n  a.append(k)\n", "def f(a):\n b = []\n for k in a:\n  b.append(k)\n return b\n",
            "def f(a):\n b = list(a)\n for k in b:\n  a.append(k)\n", "def f(a):\n k = 0\n while k < len(a):\n  a.append(k)\n  k += 1\n",
        ]
        for text in wrong:
            self.assertNotEqual(changes_of_what_is_walked(ast.parse(text).body[0]), [], text)
        for text in right:
            self.assertEqual(changes_of_what_is_walked(ast.parse(text).body[0]), [], text)

    def test_words(self):
        for path, _ in sources():
            text = path.read_text()
            for word in ("_wall", "dataclass", "overload", "contextmanager", "typing", "Protocol", "__slots__"):
                self.assertIsNone(re.search(word, text), (path.name, word))

    def test_the_interface_stands_where_the_document_lists_it(self):
        listed = {
            "names": "is_name", "world": "World sums check_sum cells_of sum_range sum_value is_run",
            "written": "written_sum read_sum", "nets": "Net balanced moved", "rings": "ring_or_cut is_ring is_cut",
            "worldnet": "net_of", "steps": "way_cost is_way is_low_ring fits_facts",
            "heights": "heights_or_ring difference cheapest_way", "boxes": "Box fits_box",
            "balances": "cell_weights floor_of ceiling_of is_clash", "flows": "fit least greatest run_with",
            "peaks": "peak trough run_with_peak run_with_trough", "walks": "walk",
            "prices": "lightest heaviest shows_least shows_greatest stretch", "setups": "Setup check_item",
            "items": "written_item read_item", "samples": "kept rows_between missing_rows sampled",
            "gathering": "box_of reported", "clashes": "least_clash", "journals": "written_journal read_journal",
            "questions": "check_question holds", "cases": "cases case_count", "answers": "answer shows", "firsts": "firsts",
            "reading": "read_question written_question", "reasons": "reasons", "machines": "Machine known sure",
            "rules": "Rule judge closes", "knowing": "knowledge parting least_rule state_courses",
            "lines": "Line line_machine seen course_items",
            "incidents": "incidents possible_incidents incident_range joined silenced",
            "telling": "told_by shows_told shows_lost told_sums", "lots": "rank least_lots is_least_lot cheapest_lot",
            "schedules": "kept_at first_lost", "meters": "Meter readings_fit meter_facts growth stream_meter",
            "budgets": "budget_states overspent settles least_reads", "spending": "budget_state",
            "traces": "Trace trace_facts lead before sure_order offsets", "causes": "Causes reach limits fit_lot",
            "blame": "least_faults conflicts blame", "desk": "Desk replay",
            "books": "written_deed read_deed written_book read_book",
        }
        trees = {path.stem: tree for path, tree in sources()}
        for name, words in listed.items():
            here = {node.name for node in trees[name].body if isinstance(node, (ast.FunctionDef, ast.ClassDef))}
            self.assertLessEqual(set(words.split()), here)
        box = [node for node in trees["boxes"].body if isinstance(node, ast.ClassDef)][0]
        self.assertLessEqual(
            {"low_of", "high_of", "narrowed", "__and__", "__eq__", "__iter__"},
            {node.name for node in box.body if isinstance(node, ast.FunctionDef)},
        )


if __name__ == "__main__":
    unittest.main()

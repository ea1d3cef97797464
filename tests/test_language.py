"""The rules of the language that can be seen in the files of the package alone."""

import ast
import builtins
import importlib
import inspect
import os
import re
import unittest

FOLDER = os.path.join(os.path.dirname(os.path.dirname(os.path.abspath(__file__))), "needleblind")
LIBRARY = {
    "heapq": {"heappush", "heappop", "heapify", "heapreplace", "heappushpop"},
    "math": {"gcd", "lcm", "isqrt", "comb", "perm", "factorial"},
    "itertools": {"product", "combinations", "permutations", "chain", "accumulate", "pairwise", "islice",
                  "zip_longest"},
    "collections": {"defaultdict", "deque"},
}
BUILTINS = set("""len range enumerate zip min max sum abs sorted reversed int str bool bytes list tuple dict set
    isinstance ord repr any all divmod pow iter next map property staticmethod super type Exception ValueError
    TypeError KeyError IndexError LookupError ZeroDivisionError RuntimeError NotImplemented""".split())
METHODS = set("""append clear copy count endswith extend find get index insert isalnum isalpha isdigit islower
    isspace isupper items join keys ljust lower lstrip partition pop remove replace reverse rfind rjust rpartition
    rsplit rstrip setdefault split splitlines startswith strip update upper values zfill bit_length add discard
    sort""".split())
DOUBLE = set("""__init__ __eq__ __repr__ __str__ __len__ __call__ __iter__ __contains__ __getitem__ __xor__""".split())
BARRED = set("mro elements open input law version_info with_traceback add_note register".split())
BARRED_ATTRIBUTES = set("""items keys values pop update append clear extend insert remove reverse setdefault sort args
    encode decode hex fromhex format""".split())
BARRED_WORDS = re.compile(r"\b(typing|typing_extensions|enum|Enum|IntEnum|StrEnum|Flag|IntFlag|Generic|Protocol|ABC|"
                          r"ABCMeta|namedtuple|NamedTuple|TypedDict|TYPE_CHECKING|abstractmethod)\b|dataclass|overload|"
                          r"contextmanager|_wall|_WallAttr")
VIEWS = ("items", "keys", "values")
CHANGING = set("append clear extend insert pop remove reverse setdefault update".split())
STATEMENTS = (ast.Assign, ast.AugAssign, ast.If, ast.While, ast.For, ast.Return, ast.Break, ast.Continue, ast.Pass,
              ast.Raise, ast.Expr, ast.FunctionDef, ast.ClassDef, ast.ImportFrom, ast.Try, ast.Delete)


def sources():
    found = {}
    for name in sorted(os.listdir(FOLDER)):
        if name != "__pycache__":
            with open(os.path.join(FOLDER, name), encoding="utf-8") as file:
                found[name] = file.read()
    return found


def bound_names(tree):
    """All names that a file binds anywhere, but for attributes."""
    found = []
    for node in ast.walk(tree):
        if isinstance(node, ast.Name) and not isinstance(node.ctx, ast.Load):
            found.append(node.id)
        elif isinstance(node, ast.arg):
            found.append(node.arg)
        elif isinstance(node, (ast.FunctionDef, ast.ClassDef)):
            found.append(node.name)
        elif isinstance(node, ast.ExceptHandler) and node.name:
            found.append(node.name)
        elif isinstance(node, ast.alias):
            found.append(node.asname or node.name)
    return found


def plainly_named(node):
    """The names, fields and items that a value may be, also behind a choice."""
    if isinstance(node, ast.IfExp):
        return plainly_named(node.body) + plainly_named(node.orelse)
    if isinstance(node, ast.BoolOp):
        return [name for value in node.values for name in plainly_named(value)]
    return [ast.unparse(node)] if isinstance(node, (ast.Name, ast.Attribute, ast.Subscript)) else []


def walked_by(node):
    """What a loop goes over, without a copy."""
    if isinstance(node, ast.Call) and isinstance(node.func, ast.Name) and node.func.id in ("enumerate", "zip"):
        return [name for value in node.args for name in walked_by(value)]
    if isinstance(node, ast.Call) and isinstance(node.func, ast.Attribute) and node.func.attr in VIEWS:
        return plainly_named(node.func.value)
    return plainly_named(node)


def changed_in(body):
    found = []
    for node in [node for statement in body for node in ast.walk(statement)]:
        if isinstance(node, ast.Call) and isinstance(node.func, ast.Attribute) and node.func.attr in CHANGING:
            found.append(ast.unparse(node.func.value))
        elif isinstance(node, ast.Subscript) and not isinstance(node.ctx, ast.Load):
            found.append(ast.unparse(node.value))
        elif isinstance(node, ast.AugAssign):
            found.append(ast.unparse(node.target))
    return found


def alike_in(function, names):
    """All names that may name, somewhere in a function, what one of the names does."""
    near = {}
    for node in ast.walk(function):
        for target in node.targets if isinstance(node, ast.Assign) else []:
            pairs = [(target, node.value)]
            if isinstance(target, ast.Tuple) and isinstance(node.value, ast.Tuple):
                pairs = list(zip(target.elts, node.value.elts))
            for one, other in [(ast.unparse(left), name) for left, right in pairs for name in plainly_named(right)]:
                near.setdefault(one, []).append(other)
                near.setdefault(other, []).append(one)
    found, waiting = set(names), list(names)
    while waiting:
        coming = set(near.get(waiting.pop(), [])) - found
        found |= coming
        waiting.extend(coming)
    return found


class Language(unittest.TestCase):
    def setUp(self):
        self.sources = sources()
        self.trees = {name: ast.parse(text) for name, text in self.sources.items()}

    def each(self, *kinds):
        for name, tree in self.trees.items():
            for node in ast.walk(tree):
                if isinstance(node, kinds):
                    yield f"{name}:{getattr(node, 'lineno', 0)}", node

    def test_files_and_sizes(self):
        self.assertIn("__init__.py", self.sources)
        self.assertLessEqual(len(self.sources), 100)
        for name, text in self.sources.items():
            self.assertRegex(name, r"^[a-z0-9_]+\.py$")
            lines = text.split("\n")
            self.assertLessEqual(len(lines), 399, name)
            for line in lines:
                self.assertLessEqual(len(line), 120, name)
            self.assertRegex(text, r"^[ -~\n]*$", name)
            self.assertIsNone(BARRED_WORDS.search(text), name)
        for where, node in self.each(ast.FunctionDef):
            self.assertLessEqual(node.end_lineno - node.lineno + 1, 40, where)

    def test_statements(self):
        for where, node in self.each(ast.stmt):
            self.assertIsInstance(node, STATEMENTS, where)
        for where, node in self.each(ast.FunctionDef):
            for decorator in node.decorator_list:
                self.assertIn(ast.unparse(decorator), ("property", "staticmethod"), where)
        for name, tree in self.trees.items():
            for at, node in enumerate(tree.body):
                if isinstance(node, ast.Expr):
                    self.assertEqual(at, 0, name)
                elif isinstance(node, ast.Assign):
                    ast.literal_eval(node.value)
                    self.assertEqual([type(target) for target in node.targets], [ast.Name], name)
                else:
                    self.assertIsInstance(node, (ast.ImportFrom, ast.FunctionDef, ast.ClassDef), name)

    def test_imports(self):
        needs = {}
        for name, tree in self.trees.items():
            needs[name] = []
            for node in ast.walk(tree):
                if not isinstance(node, ast.ImportFrom):
                    continue
                self.assertIn(node, tree.body)
                self.assertEqual(node.level, 0)
                names = {alias.name for alias in node.names}
                self.assertEqual([alias for alias in node.names if alias.asname], [])
                if node.module in LIBRARY:
                    self.assertLessEqual(names, LIBRARY[node.module])
                    continue
                package, module = node.module.split(".")
                self.assertEqual(package, "needleblind")
                needs[name].append(f"{module}.py")
                defined = {item.name for item in self.trees[f"{module}.py"].body if hasattr(item, "name")}
                defined |= {target.id for item in self.trees[f"{module}.py"].body if isinstance(item, ast.Assign)
                            for target in item.targets}
                self.assertLessEqual(names, defined)
                used = {item.id for item in ast.walk(tree) if isinstance(item, ast.Name)}
                self.assertLessEqual(names, used, name)
        done = []
        while len(done) < len(needs):
            free = [name for name in needs if name not in done and set(needs[name]) <= set(done)]
            self.assertTrue(free, "files import from each other")
            done.extend(free)

    def test_names(self):
        for name, tree in self.trees.items():
            top = [node.name for node in tree.body if isinstance(node, (ast.FunctionDef, ast.ClassDef))]
            top += [target.id for node in tree.body if isinstance(node, ast.Assign) for target in node.targets]
            imported = [alias.name for node in tree.body if isinstance(node, ast.ImportFrom) for alias in node.names]
            self.assertEqual(len(top + imported), len(set(top + imported)), name)
            bound = bound_names(tree)
            for word in imported:
                self.assertEqual(bound.count(word), 1, f"{name}: {word}")
            for word in bound:
                self.assertRegex(word, r"^(_|_?[A-Za-z][A-Za-z0-9_]*|__[a-z]+__)$", name)
                self.assertNotIn(word, BARRED, name)
                if word.startswith("__"):
                    self.assertIn(word, DOUBLE, name)
                else:
                    self.assertFalse(hasattr(builtins, word), f"{name}: {word}")
            known = set(bound) | BUILTINS
            for node in ast.walk(tree):
                if isinstance(node, ast.Name) and isinstance(node.ctx, ast.Load):
                    self.assertIn(node.id, known, name)
                    self.assertNotEqual(node.id, "_", name)

    def test_methods_and_attributes(self):
        methods, attributes = set(), set()
        for _, node in self.each(ast.ClassDef):
            attributes |= {target.id for item in node.body if isinstance(item, ast.Assign) for target in item.targets}
            own = [item.name for item in node.body if isinstance(item, ast.FunctionDef)]
            kept = {item.attr for item in ast.walk(node)
                    if isinstance(item, ast.Attribute) and isinstance(item.ctx, ast.Store)}
            self.assertEqual(len(own), len(set(own)), node.name)
            self.assertFalse(kept & set(own), node.name)
            methods |= set(own)
            attributes |= kept
        self.assertFalse(attributes & (BARRED | BARRED_ATTRIBUTES))
        self.assertFalse(methods & BARRED)
        for where, node in self.each(ast.Call):
            if isinstance(node.func, ast.Attribute):
                self.assertIn(node.func.attr, methods | METHODS, where)
        for where, node in self.each(ast.Attribute):
            self.assertIn(node.attr, methods | attributes | METHODS, where)

    def test_values(self):
        for where, node in self.each(ast.Constant):
            self.assertIsInstance(node.value, (int, str, type(None)), where)
            if isinstance(node.value, str):
                self.assertNotIn("%", node.value, where)
        for where, node in self.each(ast.Compare):
            for sign, right in zip(node.ops, node.comparators):
                if isinstance(sign, (ast.Is, ast.IsNot)):
                    self.assertIn(ast.unparse(right), ("None", "True", "False"), where)
        for where, node in self.each(ast.BinOp, ast.AugAssign):
            self.assertNotIsInstance(node.op, (ast.Div, ast.MatMult, ast.Pow), where)
        for where, node in self.each(ast.Set):
            self.assertLessEqual(len(node.elts), 2, where)

    def test_generators(self):
        # Where a class has an ==, any, all, sum and the like take lists.
        for where, node in self.each(ast.GeneratorExp, ast.YieldFrom, ast.Yield):
            self.assertNotIsInstance(node, ast.GeneratorExp, where)
        generators, others = [], []
        for _, node in self.each(ast.FunctionDef):
            yields = any(isinstance(item, (ast.Yield, ast.YieldFrom)) for item in ast.walk(node))
            (generators if yields else others).append(node.name)
        self.assertEqual(len(generators), len(set(generators)))
        self.assertFalse(set(generators) & (set(others) | METHODS))
        for where, node in self.each(ast.Call):
            if isinstance(node.func, ast.Name) and node.func.id in generators:
                self.assertEqual([item for item in node.args if not isinstance(item, (ast.Name, ast.Call))], [], where)

    def test_what_a_loop_walks_stays(self):
        for where, function in self.each(ast.FunctionDef):
            for loop in ast.walk(function):
                if isinstance(loop, ast.For):
                    walked = alike_in(function, walked_by(loop.iter))
                    self.assertFalse(walked & set(changed_in(loop.body)), f"{where}, row {loop.lineno}")

    def test_walked_lists_are_found_out(self):
        rows = ["def f(a, b):", "    while a:", "        c = []", "        for x in a:", "            c.append(x)",
                "        a = c if b else b"]
        for walk, stays in (("a", False), ("list(a)", True), ("enumerate(a)", False), ("a or b", False)):
            loop = rows[3].replace("in a", f"in {walk}").replace("for x in enumerate", "for _, x in enumerate")
            function = ast.parse("\n".join([*rows[:3], loop, *rows[4:]])).body[0]
            body = function.body[0].body[1]
            walked = alike_in(function, walked_by(body.iter))
            self.assertEqual(not walked & set(changed_in(body.body)), stays)

    def test_no_name_is_a_method_and_an_attribute(self):
        methods = {item.name for _, node in self.each(ast.ClassDef) for item in node.body
                   if isinstance(item, ast.FunctionDef)}
        attributes = {node.attr for _, node in self.each(ast.Attribute) if isinstance(node.ctx, ast.Store)}
        self.assertFalse(methods & attributes)

    def test_library_words_that_iterated_objects_bar(self):
        # A tape is iterated over and has a length.
        for where, node in self.each(ast.ImportFrom):
            self.assertFalse({"product", "combinations", "permutations"} & {alias.name for alias in node.names}, where)

    def test_equality_asks_for_the_class_first(self):
        for where, node in self.each(ast.ClassDef):
            for item in node.body:
                if isinstance(item, ast.FunctionDef) and item.name == "__eq__":
                    text = ast.unparse(item.body[0])
                    self.assertTrue(text.startswith(f"return isinstance(other, {node.name}) and "), where)


class Interface(unittest.TestCase):
    """The names that the document lists, with their parameters."""

    FUNCTIONS = {
        "names": {"is_name": "value", "is_number": "value, least, most", "is_bit": "value",
                  "is_bits": "value, many=None", "program_name": "value", "wire_name": "value"},
        "bits": {"bits_of": "value, width", "number_of": "bits", "parity": "bits", "bit_rows": "many"},
        "expressions": {"tokens": "line", "read_expression": "line", "expression_text": "tree", "names_in": "tree",
                        "worth": "tree, width, words, rows"},
        "walks": {"walk": "program, worths, *, most=200", "check_secrets": "program, worths"},
        "codes": {"is_instruction": "value", "instruction_text": "row", "read_instruction": "text"},
        "machines": {"machine_at": "code, standing"},
        "plain": {"plain_rows": "circuit, secrets, beats", "differences": "circuit, one, other, beats",
                  "first_parting": "circuit, one, other, beats"},
        "blocks": {"block_lines": "block, prefix, wires"},
        "processor": {"circuit_of": "code", "secrets_of": "code, worths", "shown_in": "rows"},
        "tidy": {"tidied": "circuit"},
        "same": {"same": "one, other"},
        "judging": {"counts": "piece, lot, parts, without", "wrong_at": "piece", "lots": "piece, t",
                    "bad_items": "piece, lot", "least_meeting": "pairs", "judge_piece": "piece, *, t=1",
                    "holds": "piece, paper, *, t=1"},
        "house": {"house_piece": "kind, n", "ring_piece": "n"},
        "ranks": {"like_rank": "taken, parts, other, coins, *, lot, without"},
        "tapes": {"parted": "bit, coins", "begun": "bit, n", "joined": "parts",
                  "bits_needed": "circuit, beats, *, parts=4, refresh=True, pieces=None"},
        "gates": {"xor_parts": "a, b", "not_parts": "a", "refresh_parts": "parts, coins",
                  "product_parts": "a, b, coins", "refresh_wires": "parts, coins", "product_wires": "a, b, coins"},
        "looks": {"all_looks": "circuit, at, *, parts=4, refresh=True, pieces=None",
                  "look_count": "circuit, at, *, parts=4, refresh=True, pieces=None",
                  "is_look": "circuit, value, at, *, parts=4, refresh=True, pieces=None",
                  "look_numbers": "look", "look_form": "value"},
        "numbers": {"least_outside": "numbers, n", "numbers_looked": "looks, *, pieces=None",
                    "turned_door": "d, k, n", "turned_refresh": "d, k, q, n", "turned_product": "da, db, a, b, k"},
        "twins": {"twin": "circuit, one, other, tape, *, t=1, rule, beats, pieces=None",
                  "alike": "circuit, one, other, first, second, *, t=1, rule, beats, pieces=None"},
        "cones": {"cone": "circuit, look, at, *, parts=4, refresh=True"},
        "odds": {"odds": "circuit, secrets, *, t=1, rule, beats, parts=None, refresh=True, free=None",
                 "unlike": "circuit, one, other, *, t=1, rule, beats, parts=None, refresh=True, free=None",
                 "is_unlike": "circuit, one, other, paper, *, t=1, rule, beats, parts=None, refresh=True, free=None"},
        "books": {"book_of": "run", "take_up": "book, circuit, secrets, tape, *, rule, pieces=None",
                  "replay": "book, circuit, secrets, tape, *, rule, pieces=None"},
        "day": {"day": "text, one, other, tape, *, t=1, rule, beats"},
    }
    CLASSES = {
        "programs": {"Program": {"__init__": "text", "text": "", "__str__": "", "__repr__": "", "__eq__": "other",
                                 "hidden": "", "words": "", "rows": "", "deeds": ""}},
        "walks": {"Walk": {"word": "name, at=0"}},
        "codes": {"Code": {"__init__": "program", "rows": "", "text": "", "__str__": "", "__repr__": "",
                           "__eq__": "other", "__len__": "", "memory": "", "address": "name, at=0"}},
        "machines": {"Machine": {"__init__": "code, worths", "step": "", "go": "beats", "beat": "property",
                                 "place": "property", "outputs": "property", "word": "name, at=0", "branch": "",
                                 "standing": ""}},
        "circuits": {"Circuit": {"__init__": "text", "text": "", "__str__": "", "__repr__": "", "__eq__": "other",
                                 "__contains__": "value", "cells": "", "secret_cells": "", "ins": "", "gates": "",
                                 "opens": "", "wires": ""}},
        "plain": {"Secrets": {"__init__": "first, later=()", "first": "", "later": "", "fits": "circuit, beats",
                              "__eq__": "other", "__repr__": ""},
                  "PlainRun": {"__init__": "circuit, secrets", "step": "", "beat": "property", "opened": "property",
                               "bit": "wire"}},
        "pieces": {"Piece": {"__init__": "text", "text": "", "__str__": "", "__repr__": "", "__eq__": "other",
                             "parts": "", "coins": "", "lines": "", "outs": "", "worths": "parts, coins"}},
        "judging": {"Taken": {"numbers": "lot", "is_taken": ""}, "Refused": {"paper": "", "is_taken": ""}},
        "tapes": {"Tape": {"__init__": "bits", "text": "", "__str__": "", "__repr__": "", "__eq__": "other", "bits": "",
                           "flipped": "positions", "__len__": "", "__getitem__": "at", "__iter__": "",
                           "__xor__": "other", "read": "static text"}},
        "rules": {"Rule": {"told": "beat, readings, opened", "__call__": "beat, readings, opened"},
                  "Fixed": {"__init__": "rows", "told": "beat, readings, opened"},
                  "ByParity": {"__init__": "table", "told": "beat, readings, opened"}},
        "runs": {"Run": {"__init__": "circuit, secrets, tape, *, t=1, rule, pieces=None, parts=None, refresh=True",
                         "step": "", "go": "beats", "glance": "looks", "beat": "property", "looked": "property",
                         "readings": "property", "opened": "property", "used": "property", "ends": "property",
                         "worth": "look", "parts": "wire", "branch": ""}},
        "twins": {"Twin": {}},
        "books": {"Book": {"__init__": "text", "text": "", "__str__": "", "__repr__": "", "__eq__": "other",
                           "__len__": "", "rows": "", "cut": "beats"}},
        "day": {"Day": {}},
    }

    def test_functions(self):
        for module, functions in self.FUNCTIONS.items():
            loaded = importlib.import_module(f"needleblind.{module}")
            for name, parameters in functions.items():
                function = getattr(loaded, name)
                self.assertEqual(str(inspect.signature(function)), f"({parameters})", name)
                self.assertEqual(function.__module__, loaded.__name__)

    def test_classes(self):
        for module, classes in self.CLASSES.items():
            loaded = importlib.import_module(f"needleblind.{module}")
            for name, methods in classes.items():
                made = getattr(loaded, name)
                self.assertEqual(made.__module__, loaded.__name__)
                for method, parameters in methods.items():
                    self.assertIn(method, vars(made), name)
                    found = vars(made)[method]
                    if parameters == "property":
                        self.assertIsInstance(found, property)
                    elif parameters.startswith("static "):
                        self.assertIsInstance(found, staticmethod)
                        expected = f"({parameters.removeprefix('static ')})"
                        self.assertEqual(str(inspect.signature(getattr(made, method))), expected)
                    else:
                        expected = f"(self, {parameters})" if parameters else "(self)"
                        self.assertEqual(str(inspect.signature(found)), expected, f"{name}.{method}")


if __name__ == "__main__":
    unittest.main()

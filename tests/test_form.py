"""The form of the files of the package: what of LANGUAGE.md a parser can see.

The program uses less than the rules allow, so that some tests are narrower than the rules.
"""

import ast
import builtins
import os
import re
import unittest

FOLDER = os.path.join(os.path.dirname(os.path.dirname(os.path.abspath(__file__))), "worstwait")
LIBRARY = {"heapq": {"heappush", "heappop"}, "math": {"gcd", "lcm"}, "itertools": {"combinations", "permutations"}}
BUILTINS = set("""len range enumerate zip min max sum abs sorted reversed int str bool list tuple dict set
isinstance ord repr any all divmod type ValueError KeyError""".split())
METHODS = set("append clear copy count extend get index insert items join keys partition pop remove setdefault "
              "split startswith update values".split())
BARRED = set("""mro elements open input law version_info with_traceback add_note register attrgetter breakpoint
builtins compile copyright credits delattr dir eval exec exit gc getattr globals hasattr help id importlib
license locals methodcaller os quit setattr super vars sys typing enum""".split())
SIMPLE = (ast.Assign, ast.AugAssign, ast.If, ast.While, ast.For, ast.Return, ast.Break, ast.Continue, ast.Raise,
          ast.Try, ast.Expr, ast.FunctionDef, ast.ClassDef, ast.ImportFrom, ast.ExceptHandler)


def files():
    return sorted(os.listdir(FOLDER)) if os.path.isdir(FOLDER) else []


def source(file):
    with open(os.path.join(FOLDER, file), "rb") as read:
        return read.read().decode("ascii")


def parsed():
    for file in files():
        if file.endswith(".py"):
            yield file, ast.parse(source(file))


def nodes(*kinds):
    for file, tree in parsed():
        for node in ast.walk(tree):
            if isinstance(node, kinds):
                yield f"{file}:{getattr(node, 'lineno', 0)}", node


def functions(tree):
    return [node for node in ast.walk(tree) if isinstance(node, ast.FunctionDef)]


def bound_names(function):
    """Parameters, locals and names of nested functions."""
    told = [arg.arg for node in ast.walk(function) if isinstance(node, ast.arguments) for arg in node.args]
    return told + [node.id for node in ast.walk(function)
                   if isinstance(node, ast.Name) and isinstance(node.ctx, ast.Store)]


def is_plain(node):
    if isinstance(node, ast.BinOp):
        return is_plain(node.left) and is_plain(node.right)
    if isinstance(node, ast.Tuple):
        return all(is_plain(one) for one in node.elts)
    if isinstance(node, ast.Dict):
        return all(is_plain(one) and not isinstance(one, ast.Dict) for one in node.keys + node.values)
    return isinstance(node, ast.Constant)


class Files(unittest.TestCase):
    def test_files_and_characters(self):
        found = [file for file in files() if file != "__pycache__"]
        self.assertIn("__init__.py", found)
        self.assertLessEqual(len(found), 100)
        for file in found:
            self.assertRegex(file, r"^[a-z_][a-z0-9_]*\.py$")
            text = source(file)
            self.assertEqual(re.sub(r"[ -~\n]", "", text), "", file)
            lines = text.split("\n")
            self.assertLessEqual(len(lines), 399, file)
            self.assertLessEqual(max(map(len, lines)), 120, file)
            self.assertNotRegex(text, r"_wall|_WallAttr|\\[^n\"'\\]", file)

    def test_functions_are_small(self):
        for where, node in nodes(ast.FunctionDef):
            self.assertLessEqual(node.end_lineno - node.lineno + 1, 40, where)

    def test_each_has_a_docstring(self):
        for file, tree in parsed():
            self.assertTrue(ast.get_docstring(tree), file)
            for node in ast.walk(tree):
                if isinstance(node, (ast.ClassDef, ast.FunctionDef)) and not node.name.startswith("__"):
                    self.assertTrue(ast.get_docstring(node), f"{file} {node.name}")


class Modules(unittest.TestCase):
    def test_module_level(self):
        for file, tree in parsed():
            self.assertIsInstance(tree.body[0], ast.Expr, file)
            for node in tree.body[1:]:
                self.assertIsInstance(node, (ast.ImportFrom, ast.FunctionDef, ast.ClassDef, ast.Assign), file)
                if isinstance(node, ast.Assign):
                    self.assertEqual(len(node.targets), 1)
                    self.assertIsInstance(node.targets[0], ast.Name)
                    self.assertTrue(is_plain(node.value), f"{file}:{node.lineno}")
            names = [node.name for node in tree.body if isinstance(node, (ast.FunctionDef, ast.ClassDef))]
            names += [node.targets[0].id for node in tree.body if isinstance(node, ast.Assign)]
            names += [one.name for node in tree.body if isinstance(node, ast.ImportFrom) for one in node.names]
            self.assertEqual(len(set(names)), len(names), file)

    def test_imports(self):
        defined = {}
        for file, tree in parsed():
            told = [node.name for node in tree.body if isinstance(node, (ast.FunctionDef, ast.ClassDef))]
            told += [node.targets[0].id for node in tree.body if isinstance(node, ast.Assign)]
            defined["worstwait." + file[:-3]] = told
        links = {}
        for where, node in nodes(ast.Import, ast.ImportFrom):
            self.assertIsInstance(node, ast.ImportFrom, where)
            self.assertEqual(node.level, 0, where)
            self.assertTrue(all(one.asname is None for one in node.names), where)
            for one in node.names:
                known = LIBRARY.get(node.module) or defined[node.module]
                self.assertIn(one.name, known, where)
            if node.module in defined:
                links.setdefault("worstwait." + where.split(":")[0][:-3], set()).add(node.module)
        ahead = {file: set(links.get(file, ())) for file in defined}
        while ahead:
            free = [file for file in ahead if not ahead[file] & set(ahead)]
            self.assertTrue(free, f"imports in a ring: {ahead}")
            for file in free:
                del ahead[file]

    def test_imports_are_used(self):
        for file, tree in parsed():
            used = {node.id for node in ast.walk(tree) if isinstance(node, ast.Name)}
            for node in tree.body:
                if isinstance(node, ast.ImportFrom):
                    for one in node.names:
                        self.assertIn(one.name, used, file)


class Names(unittest.TestCase):
    def test_no_name_is_given_another_meaning(self):
        for file, tree in parsed():
            taken = {node.name for node in tree.body if isinstance(node, (ast.ClassDef, ast.FunctionDef))}
            for node in tree.body:
                if isinstance(node, ast.ImportFrom):
                    taken |= {one.name for one in node.names}
            for function in functions(tree):
                for name in bound_names(function):
                    self.assertNotIn(name, taken, f"{file} {function.name}")
                    self.assertFalse(hasattr(builtins, name), f"{file} {function.name} {name}")
                    self.assertNotIn(name, BARRED)
                    self.assertRegex(name, r"^(_|[a-z][a-z0-9_]*)$")

    def test_no_function_has_a_builtin_name(self):
        for where, node in nodes(ast.FunctionDef, ast.ClassDef):
            if node.name.startswith("__"):
                self.assertIn(node.name, ("__init__", "__eq__"), where)
                continue
            self.assertFalse(hasattr(builtins, node.name), where)
            self.assertNotIn(node.name, BARRED)

    def test_builtins(self):
        for where, node in nodes(ast.Name):
            if hasattr(builtins, node.id):
                self.assertIn(node.id, BUILTINS, where)
            self.assertNotIn(node.id, BARRED, where)
            if node.id == "_":
                self.assertIsInstance(node.ctx, ast.Store, where)

    def test_attributes(self):
        own = {node.attr for _, node in nodes(ast.Attribute) if isinstance(node.ctx, ast.Store)}
        own |= {node.name for _, node in nodes(ast.FunctionDef)}
        for where, node in nodes(ast.Attribute):
            self.assertIn(node.attr, own | METHODS, where)
            self.assertNotIn(node.attr, BARRED, where)
            if isinstance(node.ctx, ast.Store):
                for thing in ("", 0, [], {}, set(), b"", ()):
                    self.assertFalse(hasattr(thing, node.attr) and node.attr not in ("count", "index"), where)

    def test_no_method_is_an_attribute(self):
        stored = {node.attr for _, node in nodes(ast.Attribute) if isinstance(node.ctx, ast.Store)}
        for file, tree in parsed():
            for node in tree.body:
                if isinstance(node, ast.ClassDef):
                    for method in node.body:
                        if isinstance(method, ast.FunctionDef):
                            self.assertNotIn(method.name, stored, file)


class Statements(unittest.TestCase):
    def test_kinds(self):
        for where, node in nodes(ast.stmt, ast.ExceptHandler):
            self.assertIsInstance(node, SIMPLE, where)
            if isinstance(node, ast.Expr) and not isinstance(node.value, ast.Constant):
                self.assertIsInstance(node.value, ast.Call, where)
            if isinstance(node, ast.Raise):
                self.assertIsInstance(node.exc, ast.Call, where)
                self.assertIsInstance(node.exc.func, ast.Name, where)
                self.assertIsNone(node.cause, where)
            if isinstance(node, ast.ExceptHandler):
                for kind in node.type.elts if isinstance(node.type, ast.Tuple) else [node.type]:
                    self.assertIsInstance(kind, ast.Name, where)
                    self.assertRegex(kind.id, "^(Bad|TooMany|Not)", where)
            if isinstance(node, (ast.FunctionDef, ast.ClassDef)):
                self.assertEqual(node.decorator_list, [], where)

    def test_no_stars_defaults_lambdas_with_more(self):
        barred = (ast.GeneratorExp, ast.Starred, ast.Yield, ast.YieldFrom, ast.Await, ast.NamedExpr, ast.Global,
                  ast.Nonlocal, ast.JoinedStr, ast.Div, ast.AnnAssign, ast.Match, ast.MatMult)
        for where, node in nodes(*barred):
            self.fail(f"{where} {type(node).__name__}")
        for where, node in nodes(ast.arguments):
            self.assertFalse(node.vararg or node.kwarg or node.defaults or node.kwonlyargs, where)
            self.assertFalse(any(arg.annotation for arg in node.args), where)
        for where, node in nodes(ast.Lambda):
            self.assertEqual(len(node.args.args), 1, where)

    def test_constants(self):
        for where, node in nodes(ast.Constant):
            self.assertNotIsInstance(node.value, (float, complex, bytes), where)
            if isinstance(node.value, str):
                self.assertNotIn("%", node.value, where)
        for where, node in nodes(ast.BinOp):
            if isinstance(node.op, ast.Pow):
                self.assertIsInstance(node.right, ast.Constant, where)

    def test_is(self):
        for where, node in nodes(ast.Compare):
            for op, right in zip(node.ops, node.comparators):
                if isinstance(op, (ast.Is, ast.IsNot)):
                    kinds = ast.unparse(node.left).startswith("type(") and ast.unparse(right) == "int"
                    self.assertTrue(isinstance(right, ast.Constant) or kinds, where)

    def test_kinds_are_asked_on_the_spot(self):
        """type(x) stands beside is and is not alone, and the word nowhere else but in docstrings and comments."""
        many = 0
        for where, node in nodes(ast.Compare):
            if isinstance(node.left, ast.Call) and ast.unparse(node.left.func) == "type":
                self.assertIsInstance(node.ops[0], (ast.Is, ast.IsNot), where)
                many += 1
        self.assertEqual(many, len([1 for _, node in nodes(ast.Name) if node.id == "type"]))

    def test_eq_asks_for_its_class_first(self):
        for file, tree in parsed():
            for node in tree.body:
                for method in node.body if isinstance(node, ast.ClassDef) else ():
                    if isinstance(method, ast.FunctionDef) and method.name == "__eq__":
                        wanted = f"if not isinstance(other, {node.name}):\n    return False"
                        self.assertEqual(ast.unparse(method.body[0]), wanted)


class Kept(unittest.TestCase):
    def test_keywords(self):
        for where, node in nodes(ast.Call):
            for keyword in node.keywords:
                self.assertEqual(keyword.arg, "key", where)
                self.assertIn(ast.unparse(node.func), ("sorted", "min", "max"), where)
                self.assertIsInstance(keyword.value, ast.Lambda, where)

    def test_iterated_at_once(self):
        """zip, enumerate, reversed and views stand in loops, comprehensions, list, tuple and the like alone."""
        for file, tree in parsed():
            parent = {child: node for node in ast.walk(tree) for child in ast.iter_child_nodes(node)}
            for node in ast.walk(tree):
                if not isinstance(node, ast.Call):
                    continue
                name = ast.unparse(node.func).split(".")[-1]
                if name not in ("zip", "enumerate", "reversed", "items", "values", "keys", "range", "permutations",
                                "combinations"):
                    continue
                if name in ("values", "keys", "items") and not isinstance(node.func, ast.Attribute):
                    continue
                above = parent[node]
                where = f"{file}:{node.lineno}"
                if isinstance(above, (ast.For, ast.comprehension)):
                    self.assertIs(above.iter, node, where)
                else:
                    self.assertIsInstance(above, ast.Call, where)
                    self.assertIn(ast.unparse(above.func), ("list", "tuple", "enumerate", "zip", "permutations"),
                                  where)

    def test_sets_are_measured_alone(self):
        for file, tree in parsed():
            parent = {child: node for node in ast.walk(tree) for child in ast.iter_child_nodes(node)}
            for node in ast.walk(tree):
                a_set = isinstance(node, (ast.Set, ast.SetComp))
                if isinstance(node, ast.Call) and ast.unparse(node.func) in ("set", "frozenset"):
                    a_set = True
                if a_set:
                    self.assertEqual(ast.unparse(parent[node].func), "len", f"{file}:{node.lineno}")

    def test_what_is_iterated_is_not_changed(self):
        changing = ("append", "extend", "insert", "pop", "remove", "clear", "update", "setdefault")
        for where, loop in nodes(ast.For):
            if ast.unparse(loop.iter).startswith("range("):
                continue
            over = {ast.unparse(node) for node in ast.walk(loop.iter)
                    if isinstance(node, (ast.Name, ast.Attribute, ast.Subscript))}
            for node in [one for row in loop.body for one in ast.walk(row)]:
                if isinstance(node, ast.Call) and isinstance(node.func, ast.Attribute):
                    if node.func.attr in changing:
                        self.assertNotIn(ast.unparse(node.func.value), over, where)
                if isinstance(node, ast.Subscript) and isinstance(node.ctx, ast.Store):
                    self.assertNotIn(ast.unparse(node.value), over, where)

    def test_own_functions_get_what_they_take(self):
        takes = {}
        for file, tree in parsed():
            for node in tree.body:
                if isinstance(node, ast.FunctionDef):
                    takes[node.name] = len(node.args.args)
                if isinstance(node, ast.ClassDef):
                    for method in node.body:
                        if isinstance(method, ast.FunctionDef):
                            name = node.name if method.name == "__init__" else method.name
                            takes[name] = len(method.args.args) - 1
        for where, node in nodes(ast.Call):
            name = ast.unparse(node.func).split(".")[-1]
            if name in takes and not (isinstance(node.func, ast.Attribute) and name in METHODS):
                self.assertEqual(len(node.args), takes[name], where)


if __name__ == "__main__":
    unittest.main()

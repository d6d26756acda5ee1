"""The files of the package keep to the rules of LANGUAGE.md that a reading of their trees can tell."""

import ast
import builtins
import os
import unittest

ROOT = os.path.dirname(os.path.dirname(os.path.abspath(__file__)))
PACKAGE = os.path.join(ROOT, "leastneeds")

BUILTINS = set(
    "len range enumerate zip min max sum abs sorted reversed int str bool bytes list tuple dict set frozenset "
    "isinstance ord repr any all divmod Exception ValueError TypeError KeyError IndexError LookupError "
    "ZeroDivisionError ArithmeticError OverflowError RuntimeError NotImplementedError AttributeError "
    "StopIteration NotImplemented iter next map super property staticmethod classmethod".split()
)
METHODS = set(
    "append clear copy count endswith extend find get index insert isalnum isalpha isdigit islower isspace "
    "isupper items join keys ljust lower lstrip partition pop remove replace reverse rfind rjust rpartition "
    "rsplit rstrip setdefault split splitlines startswith strip update upper values zfill bit_length add isascii "
    "discard sort".split()
)
DUNDERS = set("__init__ __eq__ __repr__ __str__ __len__ __enter__ __exit__ __call__ __iter__".split())
BARRED_NAMES = set(
    "register mro elements open input law version_info with_traceback add_note attrgetter breakpoint builtins "
    "compile copyright credits delattr dir eval exec exit gc getattr globals hasattr help id importlib license "
    "locals methodcaller os quit setattr super type vars sys".split()
)
BARRED_WORDS = set(
    "type typing typing_extensions enum Enum IntEnum StrEnum Flag IntFlag Generic Protocol ABC ABCMeta "
    "namedtuple NamedTuple TypedDict TYPE_CHECKING abstractmethod".split()
)
FREE_TAKERS = set("any all min max sum sorted list tuple dict enumerate zip".split())
# Methods that change what they are called off.
CHANGERS = set("append clear extend insert pop remove reverse setdefault update sort add discard".split())
# Methods and properties that change nothing, nor does anything that they call.
QUIET = set("__eq__ __repr__ __str__ __len__".split())
BUILTIN_ATTRIBUTES = set()
for kind in (str, int, list, dict, set, bytes, tuple):
    BUILTIN_ATTRIBUTES |= {name for name in dir(kind) if not name.startswith("__")}


def files():
    found = []
    for folder, _, names in os.walk(PACKAGE):
        if "__pycache__" in folder:
            continue
        found += [os.path.join(folder, name) for name in names]
    return sorted(found)


class TestLanguage(unittest.TestCase):
    @classmethod
    def setUpClass(cls):
        cls.trees = {}
        cls.texts = {}
        for path in files():
            with open(path, "rb") as file:
                cls.texts[path] = file.read().decode("ascii")
            cls.trees[path] = ast.parse(cls.texts[path])
            for node in ast.walk(cls.trees[path]):
                for child in ast.iter_child_nodes(node):
                    child.parent = node
        cls.functions = [
            (path, node)
            for path, tree in cls.trees.items()
            for node in ast.walk(tree)
            if isinstance(node, ast.FunctionDef)
        ]
        cls.generators = [
            node.name
            for _, node in cls.functions
            if any(isinstance(part, (ast.Yield, ast.YieldFrom)) for part in own_nodes(node))
        ]

    def nodes(self, *kinds):
        for path, tree in self.trees.items():
            for node in ast.walk(tree):
                if isinstance(node, kinds):
                    yield path, node

    def fail_at(self, path, node, text):
        self.fail(f"{os.path.basename(path)}:{getattr(node, 'lineno', 0)}: {text}")

    def test_files(self):
        for path, text in self.texts.items():
            name = os.path.basename(path)
            self.assertRegex(name, r"^[a-z0-9_]+\.py$")
            lines = text.split("\n")
            self.assertLess(len(lines), 400, path)
            self.assertNotIn("\t", text)
            self.assertTrue(all(len(line) <= 120 for line in lines), path)
            self.assertTrue(all(sign == "\n" or " " <= sign <= "~" for sign in text), path)
            self.assertNotIn(name[:-3], BARRED_NAMES | set(dir(builtins)))

    def test_functions_are_short(self):
        for path, node in self.functions:
            if node.end_lineno - node.lineno >= 40:
                self.fail_at(path, node, "long")

    def test_only_own_errors_are_caught(self):
        for path, node in self.nodes(ast.Try):
            for row in node.finalbody:
                self.check_final(path, row)
            for handler in node.handlers:
                self.assertNotIn(handler.type.id, dir(builtins))

    def check_final(self, path, row):
        """A statement of a finally: plain assignments, `-= 1`, and tests for None."""
        if isinstance(row, ast.If):
            test = row.test
            fine = isinstance(test, ast.Compare) and isinstance(test.ops[0], (ast.Is, ast.IsNot))
            self.assertTrue(fine and test.comparators[0].value is None)
            for inner in row.body + row.orelse:
                self.check_final(path, inner)
            return
        self.assertIsInstance(row, (ast.Assign, ast.AugAssign))
        for node in ast.walk(row):
            if isinstance(node, (ast.Call, ast.Subscript, ast.BinOp, ast.Compare)):
                self.fail_at(path, node, "in a finally")

    def test_imports(self):
        links = {}
        for path, tree in self.trees.items():
            module = "leastneeds." + os.path.basename(path)[:-3]
            links[module] = []
            used = {node.id for node in ast.walk(tree) if isinstance(node, ast.Name)}
            for node in ast.walk(tree):
                self.assertNotIsInstance(node, ast.Import)
                if isinstance(node, ast.ImportFrom):
                    self.assertIs(node.parent, tree)
                    self.assertTrue(node.module.startswith("leastneeds.") and node.level == 0)
                    links[module].append(node.module)
                    source = os.path.join(PACKAGE, node.module.split(".")[1] + ".py")
                    for alias in node.names:
                        if alias.asname or alias.name not in bound_in(self.trees[source]):
                            self.fail_at(path, node, "not defined there: " + alias.name)
                        if alias.name not in used:
                            self.fail_at(path, node, "not used: " + alias.name)
        done = set()
        while len(done) < len(links):
            ready = [name for name in links if name not in done and all(link in done for link in links[name])]
            self.assertTrue(ready, "a ring of imports")
            done.update(ready)

    def test_module_level(self):
        for path, tree in self.trees.items():
            names = []
            for node in tree.body:
                if isinstance(node, ast.Assign):
                    self.assertEqual(len(node.targets), 1)
                    names.append(node.targets[0].id)
                    for part in ast.walk(node.value):
                        if isinstance(part, (ast.Call, ast.Lambda, ast.ListComp, ast.Set)):
                            self.fail_at(path, node, "not plain")
                elif isinstance(node, (ast.FunctionDef, ast.ClassDef)):
                    names.append(node.name)
                elif isinstance(node, ast.ImportFrom):
                    names += [alias.name for alias in node.names]
                elif not (isinstance(node, ast.Expr) and isinstance(node.value, ast.Constant)):
                    self.fail_at(path, node, "at module level")
            self.assertEqual(len(names), len(set(names)), path)

    def test_statements_and_expressions(self):
        barred = (ast.Global, ast.AsyncFunctionDef, ast.Div, ast.AnnAssign, ast.GeneratorExp)
        for path, node in self.nodes(ast.AST):
            if isinstance(node, barred):
                self.fail_at(path, node, "barred")
            if isinstance(node, ast.Constant) and isinstance(node.value, (float, complex, bytes)):
                self.fail_at(path, node, "number")
            if isinstance(node, ast.Constant) and isinstance(node.value, str):
                self.assertNotIn("%", node.value)
                is_docstring = isinstance(node.parent, ast.Expr)
                if not is_docstring and BARRED_WORDS & set(node.value.split()):
                    self.fail_at(path, node, "word")
            if isinstance(node, ast.Compare):
                for op, right in zip(node.ops, node.comparators):
                    if isinstance(op, (ast.Is, ast.IsNot)) and not isinstance(right, ast.Constant):
                        self.fail_at(path, node, "is")
            if isinstance(node, (ast.FunctionDef, ast.ClassDef)):
                for decorator in node.decorator_list:
                    word = decorator.attr if isinstance(decorator, ast.Attribute) else decorator.id
                    self.assertIn(word, ("property", "setter", "staticmethod", "classmethod"))

    def test_names(self):
        for path, tree in self.trees.items():
            outer = {node.name for node in tree.body if isinstance(node, ast.ClassDef)}
            for node in tree.body:
                if isinstance(node, ast.ImportFrom):
                    outer |= {alias.name for alias in node.names}
            for node in ast.walk(tree):
                words = []
                if isinstance(node, ast.arg):
                    words = [node.arg]
                elif isinstance(node, ast.Name) and isinstance(node.ctx, ast.Store):
                    words = [node.id]
                for word in words:
                    if word in outer or word in dir(builtins) or word in BARRED_NAMES or word.startswith("__"):
                        self.fail_at(path, node, "name " + word)
                if isinstance(node, ast.Name) and isinstance(node.ctx, ast.Load) and node.id in dir(builtins):
                    self.assertIn(node.id, BUILTINS)
                if isinstance(node, ast.FunctionDef) and isinstance(node.parent, ast.Module):
                    self.assertNotIn(node.name, set(dir(builtins)) | BARRED_NAMES)
                if isinstance(node, (ast.Name, ast.Attribute)):
                    self.assertNotIn(getattr(node, "id", getattr(node, "attr", "")), BARRED_WORDS)

    def test_methods_and_attributes(self):
        methods, stored, read = set(), set(), {}
        for path, node in self.functions:
            if isinstance(node.parent, ast.ClassDef):
                methods.add(node.name)
                if node.name.startswith("__"):
                    self.assertIn(node.name, DUNDERS)
                elif node.name in BUILTIN_ATTRIBUTES:
                    self.assertIn(node.name, METHODS)
        for path, node in self.nodes(ast.Attribute):
            if isinstance(node.ctx, ast.Store):
                stored.add(node.attr)
            else:
                read.setdefault(node.attr, (path, node))
        for path, node in self.nodes(ast.Assign):
            if isinstance(node.parent, ast.ClassDef):
                stored.add(node.targets[0].id)
        self.assertEqual(methods & stored, set())
        self.assertEqual((methods | stored) & {"add", "discard"}, set())
        self.assertEqual({word for word in stored if word in BUILTIN_ATTRIBUTES} - {"count", "index"}, set())
        for word, (path, node) in read.items():
            if word not in methods | stored | METHODS:
                self.fail_at(path, node, "attribute " + word)

    def test_calls(self):
        for path, node in self.nodes(ast.Call):
            for arg in node.args:
                if isinstance(arg, ast.Starred) and not isinstance(arg.value, (ast.Name, ast.Attribute)):
                    self.fail_at(path, node, "star")
            name = getattr(node.func, "id", getattr(node.func, "attr", ""))
            if name in ("zip", "enumerate", "reversed", "range", "items", "keys", "values"):
                parent = node.parent
                fine = isinstance(parent, (ast.For, ast.comprehension)) and parent.iter is node
                if isinstance(parent, ast.Call) and isinstance(parent.func, ast.Name):
                    fine = fine or parent.func.id in FREE_TAKERS | {"reversed"} and not parent.keywords
                if not fine or (name == "reversed" and getattr(getattr(parent, "func", None), "id", "") == name):
                    self.fail_at(path, node, "not iterated at once")
            if name in self.generators:
                parent = node.parent
                fine = isinstance(parent, (ast.For, ast.comprehension, ast.YieldFrom))
                fine = fine or (isinstance(parent, ast.Call) and getattr(parent.func, "id", "") in FREE_TAKERS)
                if not fine:
                    self.fail_at(path, node, "generator")

    def test_generators_have_names_of_their_own(self):
        names = [node.name for _, node in self.functions]
        for name in self.generators:
            # Compiled.events is listed beside events, and both are generators.
            self.assertEqual(names.count(name), self.generators.count(name), name)
            self.assertEqual(names.count(name), 2 if name == "events" else 1, name)

    def test_sets(self):
        for path, node in self.nodes(ast.Set, ast.SetComp, ast.Call):
            if isinstance(node, ast.Call) and getattr(node.func, "id", "") != "set":
                continue
            parent = node.parent
            if isinstance(parent, ast.Call):
                fine = getattr(parent.func, "id", "") in ("sorted", "len") and not parent.keywords
            elif isinstance(parent, ast.Assign):
                fine = self.is_plain_set(parent)
            else:
                fine = isinstance(parent, ast.Compare)
            if not fine:
                self.fail_at(path, node, "set")

    def is_plain_set(self, assign):
        name = assign.targets[0].id
        function = assign
        while not isinstance(function, ast.FunctionDef):
            function = function.parent
        uses = [node for node in ast.walk(function) if isinstance(node, ast.Name) and node.id == name]
        for node in uses:
            parent = node.parent
            if parent is assign or isinstance(parent, ast.Compare):
                continue
            if isinstance(parent, ast.Attribute) and parent.attr in ("add", "discard"):
                continue
            if isinstance(parent, ast.Call) and getattr(parent.func, "id", "") in ("len", "sorted"):
                continue
            return False
        return sum(isinstance(node.ctx, ast.Store) for node in uses) == 1

    def test_equality_and_properties_change_nothing(self):
        reached = self.reached_quietly()
        self.assertIn("looks_of", [node.name for _, node in reached])
        for path, node in reached:
            for part in ast.walk(node):
                if isinstance(part, (ast.Attribute, ast.Subscript)) and not isinstance(part.ctx, ast.Load):
                    self.fail_at(path, part, "changes what it holds")
                if isinstance(part, ast.AugAssign) and not isinstance(part.value, ast.Constant):
                    self.fail_at(path, part, "may change what it was handed")
                if isinstance(part, ast.Call):
                    self.check_quiet_call(path, node, part)

    def check_quiet_call(self, path, function, call):
        """A call of a name that the function did not get or make, or of a method that changes nothing there."""
        if isinstance(call.func, ast.Name):
            self.assertNotIn(call.func.id, names_made_in(function), path)
            return
        self.assertIsInstance(call.func, ast.Attribute, path)
        if call.func.attr in CHANGERS and not is_own_list(call.func.value, function):
            self.fail_at(path, call, "may change what it was handed")

    def reached_quietly(self):
        """All that equality, lengths, texts and properties come to, where a call counts by its name alone."""
        by_name, methods = {}, {}
        for path, node in self.functions:
            is_method = isinstance(node.parent, ast.ClassDef)
            (methods if is_method else by_name).setdefault(node.name, []).append((path, node))
            if is_method and node.name == "__init__":
                by_name.setdefault(node.parent.name, []).append((path, node))
        found = [row for row in self.functions if is_property(row[1])]
        properties = {node.name for _, node in found}
        found += [row for name in sorted(QUIET) for row in methods.get(name, [])]
        for _, node in found:
            for part in ast.walk(node):
                rows = []
                if isinstance(part, ast.Call) and isinstance(part.func, ast.Name):
                    rows = by_name.get(part.func.id, [])
                elif isinstance(part, ast.Call) and isinstance(part.func, ast.Attribute):
                    rows = methods.get(part.func.attr, [])
                elif isinstance(part, ast.Attribute) and part.attr in properties:
                    rows = methods[part.attr]
                found += [row for row in rows if row not in found]
        return found

    def test_defaults_are_plain(self):
        for path, node in self.functions:
            for default in node.args.defaults + [row for row in node.args.kw_defaults if row is not None]:
                if not isinstance(ast.literal_eval(default), (int, str, tuple, type(None))):
                    self.fail_at(path, node, "default")


def own_nodes(function):
    waiting = list(function.body)
    while waiting:
        node = waiting.pop()
        yield node
        if not isinstance(node, (ast.FunctionDef, ast.Lambda)):
            waiting.extend(ast.iter_child_nodes(node))


def is_property(function):
    """Whether a function is a property that is read."""
    return any(getattr(row, "id", "") == "property" for row in function.decorator_list)


def names_made_in(function):
    """The parameters of a function and of all in it, and the names that are assigned there."""
    found = {node.arg for node in ast.walk(function) if isinstance(node, ast.arg)}
    nodes = [node for node in ast.walk(function) if isinstance(node, ast.Name)]
    return found | {node.id for node in nodes if isinstance(node.ctx, ast.Store)}


def is_own_list(value, function):
    """Whether a value is a name that the function assigns nothing but new lists."""
    if not isinstance(value, ast.Name):
        return False
    if value.id in [node.arg for node in ast.walk(function) if isinstance(node, ast.arg)]:
        return False
    stores = [node for node in ast.walk(function) if isinstance(node, ast.Name) and isinstance(node.ctx, ast.Store)]
    parents = [node.parent for node in stores if node.id == value.id]
    return all(isinstance(row, ast.Assign) and isinstance(row.value, (ast.List, ast.ListComp)) for row in parents)


def bound_in(tree):
    found = set()
    for node in tree.body:
        if isinstance(node, (ast.FunctionDef, ast.ClassDef)):
            found.add(node.name)
        elif isinstance(node, ast.Assign):
            found.add(node.targets[0].id)
    return found


if __name__ == "__main__":
    unittest.main()

"""LANGUAGE.md, as far as a short look at the files of the package tells."""

import ast
import builtins
import glob
import os
import unittest

PACKAGE = os.path.join(os.path.dirname(os.path.dirname(os.path.abspath(__file__))), "screwshop")
ORDER = ["errors", "basics", "wheels", "lines", "bars", "passes", "dials", "motions", "alikebars", "nuts", "tied",
         "crossings", "lands", "depths", "pawls", "worn", "misfits", "nested", "dividing", "sheets", "judge", "texts",
         "board", "desk"]
LIBRARY = {"math": {"gcd", "lcm", "isqrt", "comb", "perm", "factorial"},
           "heapq": {"heappush", "heappop", "heapify", "heapreplace", "heappushpop"},
           "itertools": {"product", "combinations", "permutations"}}
ALLOWED = set("""len range enumerate zip min max sum abs sorted reversed int str bool list tuple dict set isinstance
ord repr any all divmod Exception ValueError TypeError KeyError IndexError LookupError ZeroDivisionError
ArithmeticError OverflowError RuntimeError NotImplementedError AttributeError StopIteration NotImplemented""".split())
METHODS = set("""append clear copy count endswith extend find get index insert isalnum isalpha isdigit islower isspace isupper
items join keys ljust lower lstrip partition pop remove replace reverse rfind rjust rpartition rsplit rstrip setdefault split
splitlines startswith strip update upper values zfill bit_length title capitalize swapcase casefold center expandtabs removeprefix
removesuffix rindex isascii isdecimal isnumeric istitle isidentifier isprintable add discard""".split())
WORDS = set("""type typing typing_extensions enum Enum IntEnum StrEnum Flag IntFlag Generic Protocol ABC ABCMeta namedtuple NamedTuple
TypedDict TYPE_CHECKING abstractmethod register mro elements open input law version_info with_traceback add_note attrgetter breakpoint
builtins compile copyright credits delattr dir eval exec exit gc getattr globals hasattr help id importlib license locals methodcaller os
quit setattr super vars sys""".split())
BARRED = (ast.Global, ast.AsyncFunctionDef, ast.Div, ast.GeneratorExp, ast.AnnAssign, ast.Set, ast.Yield)


def files():
    return sorted(glob.glob(os.path.join(PACKAGE, "*.py")))


def trees():
    for path in files():
        with open(path, encoding="ascii") as text:
            yield os.path.basename(path)[:-3], ast.parse(text.read())


class Language(unittest.TestCase):
    def test_the_folder_holds_nothing_else(self):
        held = [name for name in os.listdir(PACKAGE) if name != "__pycache__"]
        self.assertEqual(sorted(held), [os.path.basename(path) for path in files()])

    def test_sizes_and_signs(self):
        for path in files():
            with open(path, encoding="ascii", newline="") as text:
                lines = text.read().split("\n")
            with self.subTest(path=path):
                self.assertLessEqual(len(lines) - 1, 399)
                self.assertLessEqual(max(map(len, lines)), 120)
                self.assertTrue(all(" " <= sign <= "~" for line in lines for sign in line))

    def test_functions_are_small(self):
        for name, tree in trees():
            for node in ast.walk(tree):
                if isinstance(node, ast.FunctionDef):
                    with self.subTest(file=name, function=node.name):
                        self.assertLessEqual(node.end_lineno - node.lineno + 1, 40)

    def test_files_draw_from_those_ahead_alone(self):
        for name, tree in trees():
            for node in ast.walk(tree):
                self.assertNotIsInstance(node, ast.Import)
                if isinstance(node, ast.ImportFrom):
                    with self.subTest(file=name, drawn=node.module):
                        self.assertEqual(node.level, 0)
                        self.assertTrue(all(own.asname is None for own in node.names))
                        self.drawn_from(name, node)

    def drawn_from(self, name, node):
        if node.module in LIBRARY:
            self.assertLessEqual({own.name for own in node.names}, LIBRARY[node.module])
            return
        folder, _, file = node.module.partition(".")
        self.assertEqual(folder, "screwshop")
        self.assertLess(ORDER.index(file), ORDER.index(name))

    def test_all_that_is_drawn_in_is_used(self):
        for name, tree in trees():
            drawn = [own.name for node in tree.body if isinstance(node, ast.ImportFrom) for own in node.names]
            used = {node.id for node in ast.walk(tree) if isinstance(node, ast.Name)}
            with self.subTest(file=name):
                self.assertEqual(len(drawn), len(set(drawn)))
                self.assertLessEqual(set(drawn), used)

    def test_names_are_free(self):
        for name, tree in trees():
            drawn = {own.name for node in tree.body if isinstance(node, ast.ImportFrom) for own in node.names}
            for node in ast.walk(tree):
                for own in self.bound(node):
                    with self.subTest(file=name, name=own):
                        self.assertFalse(hasattr(builtins, own) and own not in ("__init__", "__eq__", "__len__"))
                        self.assertNotIn(own, drawn)

    def test_stars_stand_before_names_alone(self):
        for name, tree in trees():
            for node in ast.walk(tree):
                if isinstance(node, ast.Starred):
                    with self.subTest(file=name, line=node.lineno):
                        self.assertIsInstance(node.value, (ast.Name, ast.Attribute, ast.List, ast.Tuple))

    def test_what_is_iterated_at_once_is_not_returned(self):
        for name, tree in trees():
            for node in ast.walk(tree):
                if isinstance(node, ast.Return) and isinstance(node.value, ast.Call):
                    with self.subTest(file=name, line=node.lineno):
                        told = getattr(node.value.func, "id", getattr(node.value.func, "attr", ""))
                        self.assertNotIn(told, ("range", "zip", "enumerate", "reversed", "map", "iter", "items", "keys", "values"))

    def test_words_that_stand_nowhere(self):
        for path in files():
            with open(path, encoding="ascii") as text:
                told = text.read()
            for word in ("_" + "wall", "_" + "WallAttr", "dataclass", "overload", "contextmanager"):
                with self.subTest(path=path, word=word):
                    self.assertNotIn(word, told)

    def test_methods_and_attributes(self):
        methods, attributes = {}, {}
        for name, tree in trees():
            for node in ast.walk(tree):
                if isinstance(node, ast.ClassDef):
                    for own in node.body:
                        if isinstance(own, ast.FunctionDef):
                            methods.setdefault(own.name, []).append(node.name)
                if isinstance(node, ast.Attribute) and isinstance(node.ctx, ast.Store):
                    attributes[node.attr] = name
        # no name is a method and an attribute, nor a method of what Python has
        self.assertFalse(set(methods) & set(attributes))
        self.assertFalse((set(methods) | set(attributes)) & (METHODS | {"sort", "args", "encode", "decode", "hex", "format"}))
        for name, tree in trees():
            for node in ast.walk(tree):
                if isinstance(node, ast.Attribute) and isinstance(node.ctx, ast.Load):
                    with self.subTest(file=name, line=node.lineno):
                        self.assertIn(node.attr, METHODS | set(methods) | set(attributes))

    def test_names_that_are_not_used(self):
        for name, tree in trees():
            for node in ast.walk(tree):
                for own in self.bound(node) + [getattr(node, "attr", "_"), getattr(node, "id", "_")]:
                    with self.subTest(file=name, name=own):
                        self.assertNotIn(own, WORDS)
                        self.assertTrue(own == "_" or own[0] != "_" or own[1] != "_" or own in ("__init__", "__eq__", "__len__"))

    def test_each_name_is_bound_once(self):
        for name, tree in trees():
            names = [own.name for node in tree.body if isinstance(node, ast.ImportFrom) for own in node.names]
            names += [node.name for node in tree.body if isinstance(node, (ast.FunctionDef, ast.ClassDef))]
            names += [node.targets[0].id for node in tree.body if isinstance(node, ast.Assign)]
            with self.subTest(file=name):
                self.assertEqual(len(names), len(set(names)))
                classes = {node.name for node in tree.body if isinstance(node, ast.ClassDef)}
                locals_of = [own for node in ast.walk(tree) for own in self.bound(node) if not isinstance(node, (ast.FunctionDef, ast.ClassDef))]
                self.assertFalse(classes & set(locals_of))

    def test_formats_stand_on_one_line(self):
        for name, tree in trees():
            for node in ast.walk(tree):
                if isinstance(node, ast.JoinedStr):
                    with self.subTest(file=name, line=node.lineno):
                        self.assertEqual(node.lineno, node.end_lineno)
                        for part in ast.walk(node):
                            if isinstance(part, ast.FormattedValue):
                                self.assertFalse([own for own in ast.walk(part.value) if isinstance(own, ast.Constant) and isinstance(own.value, str)])

    def test_a_stored_set_is_assigned_alone(self):
        for name, tree in trees():
            for node in ast.walk(tree):
                if isinstance(node, ast.Tuple) and isinstance(node.ctx, ast.Load):
                    with self.subTest(file=name, line=node.lineno):
                        self.assertFalse([own for own in node.elts if self.makes_a_set(own)])

    def makes_a_set(self, node):
        if isinstance(node, ast.SetComp):
            return True
        return isinstance(node, ast.Call) and isinstance(node.func, ast.Name) and node.func.id == "set"

    def bound(self, node):
        if isinstance(node, ast.Name) and isinstance(node.ctx, ast.Store):
            return [node.id]
        if isinstance(node, ast.arg):
            return [node.arg]
        return [node.name] if isinstance(node, (ast.FunctionDef, ast.ClassDef)) else []

    def test_barred_signs_and_builtins(self):
        for name, tree in trees():
            for node in ast.walk(tree):
                with self.subTest(file=name, line=getattr(node, "lineno", 0)):
                    self.assertNotIsInstance(node, BARRED)
                    if isinstance(node, ast.Constant):
                        self.assertNotIsInstance(node.value, float)
                        self.assertNotIn("%", str(node.value))
                    if isinstance(node, ast.Name) and hasattr(builtins, node.id):
                        self.assertIn(node.id, ALLOWED)


if __name__ == "__main__":
    unittest.main()

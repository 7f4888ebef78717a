"""The rows of the package keep to the small language that it is written in, as far as a test can look."""

import ast
import builtins
import inspect
import pathlib
import unittest

import semirail
from semirail import automata, back, best, dealings, errors, expressions, leadings, limits, operations, places, rests
from semirail import ringof, rings, rounds, showing, webs, words

FOLDER = pathlib.Path(semirail.__file__).parent
FILES = sorted(FOLDER.glob("*.py"))
LIBRARY = {"heapq": {"heappush", "heappop", "heapify", "heapreplace", "heappushpop"},
           "math": {"gcd", "lcm", "isqrt", "comb", "perm", "factorial"},
           "itertools": {"product", "combinations", "permutations"}}
BUILTINS = set("""len range enumerate zip min max sum abs sorted reversed int str bool bytes list tuple dict set isinstance
ord repr any all divmod iter next map Exception ValueError TypeError KeyError IndexError LookupError ZeroDivisionError
ArithmeticError OverflowError RuntimeError NotImplementedError super property staticmethod classmethod""".split())
METHODS = set("""append clear copy count endswith extend find get index insert isalnum isalpha isdigit islower isspace
isupper items join keys ljust lower lstrip partition pop remove replace reverse rfind rjust rpartition rsplit rstrip
setdefault split splitlines startswith strip update upper values zfill bit_length removeprefix removesuffix add discard
sort""".split())
DUNDERS = {"__init__", "__eq__", "__repr__", "__str__", "__len__", "__iter__", "__call__"}
BARRED = {"type", "typing", "enum", "Enum", "Flag", "Generic", "Protocol", "ABC", "namedtuple", "NamedTuple", "eval",
          "exec", "getattr", "setattr", "globals", "register", "mro", "elements", "open", "input", "law"}
NODES = (ast.Global, ast.AsyncFunctionDef, ast.AsyncFor, ast.AsyncWith, ast.Await, ast.GeneratorExp, ast.Div,
         ast.TryStar, ast.AnnAssign, ast.SetComp)


def trees():
    """Each file with its text and its tree."""
    return [(path, path.read_text(encoding="utf-8"), ast.parse(path.read_text(encoding="utf-8"))) for path in FILES]


def bound_names(tree):
    """All names that a file binds, as variables, parameters, functions and classes."""
    for node in ast.walk(tree):
        if isinstance(node, ast.Name) and isinstance(node.ctx, ast.Store):
            yield node.id
        elif isinstance(node, ast.arg):
            yield node.arg
        elif isinstance(node, (ast.FunctionDef, ast.ClassDef)):
            yield node.name


class LanguageTest(unittest.TestCase):
    def test_folder(self):
        names = [path.name for path in FOLDER.iterdir() if path.name != "__pycache__"]
        self.assertEqual(sorted(names), [path.name for path in FILES])
        for name in names:
            self.assertRegex(name, r"^(__init__|[a-z][a-z0-9_]*)\.py$")

    def test_sizes_and_signs(self):
        for path, text, tree in trees():
            lines = text.split("\n")
            self.assertLessEqual(len(lines) - 1, 399, path)
            for line in lines:
                self.assertLessEqual(len(line), 120, (path, line))
            self.assertTrue(all(sign == "\n" or " " <= sign <= "~" for sign in text), path)
            for node in ast.walk(tree):
                if isinstance(node, ast.FunctionDef):
                    self.assertLessEqual(node.end_lineno - node.lineno + 1, 40, (path, node.name))
                    self.assertEqual(node.decorator_list, [])
                if isinstance(node, (ast.ClassDef, ast.Module)):
                    self.assertTrue(ast.get_docstring(node), path)

    def test_nodes(self):
        for path, _, tree in trees():
            for node in ast.walk(tree):
                self.assertNotIsInstance(node, NODES, path)
                if isinstance(node, ast.Constant):
                    self.assertNotIsInstance(node.value, (float, complex), path)
                    self.assertNotIn("%", node.value if isinstance(node.value, str) else "", path)
                if isinstance(node, ast.Compare):
                    for sign, side in zip(node.ops, node.comparators):
                        if isinstance(sign, (ast.Is, ast.IsNot)):
                            self.assertIn(getattr(side, "value", 0), (None, True, False), path)
                if isinstance(node, ast.ExceptHandler):
                    self.assertIsNotNone(node.type, path)
                if isinstance(node, ast.Call) and isinstance(node.func, ast.Name):
                    if node.func.id in ("any", "all", "sum", "min", "max"):
                        self.assertNotIsInstance(node.args[0], ast.GeneratorExp, path)

    def test_names(self):
        for path, text, tree in trees():
            top = [node.name for node in tree.body if isinstance(node, (ast.FunctionDef, ast.ClassDef))]
            self.assertEqual(len(top), len(set(top)), path)
            for name in bound_names(tree):
                self.assertFalse(name in vars(builtins) or name in BARRED, (path, name))
                self.assertFalse(name.startswith("__") and name not in DUNDERS, (path, name))
            for node in ast.walk(tree):
                if isinstance(node, ast.Name) and node.id in vars(builtins):
                    self.assertIn(node.id, BUILTINS, path)

    def test_imports(self):
        for path, _, tree in trees():
            for node in ast.walk(tree):
                self.assertNotIsInstance(node, ast.Import, path)
                if isinstance(node, ast.ImportFrom) and node.module in LIBRARY:
                    self.assertLessEqual({name.name for name in node.names}, LIBRARY[node.module])
                elif isinstance(node, ast.ImportFrom):
                    self.assertTrue(node.module.startswith("semirail.") and node.level == 0, path)
                    home = ast.parse((FOLDER / f"{node.module[9:]}.py").read_text(encoding="utf-8"))
                    told = {*bound_names(home)}
                    self.assertLessEqual({name.name for name in node.names}, told, path)

    def test_methods(self):
        own = {node.name for _, _, tree in trees() for node in ast.walk(tree) if isinstance(node, ast.FunctionDef)}
        for path, _, tree in trees():
            for node in ast.walk(tree):
                if isinstance(node, ast.Call) and isinstance(node.func, ast.Attribute):
                    self.assertIn(node.func.attr, METHODS | own | {"__init__"}, path)


class InterfaceTest(unittest.TestCase):
    WANTED = {
        words: ["is_whole(thing, least, most)", "is_letter(thing)", "is_alphabet(thing)",
                "is_word(alphabet, thing, *, long=60)", "is_name(thing)", "shortlex(words)",
                "words_to(alphabet, length)", "cuts(word)", "number_in(word)", "rows_of(text)"],
        ringof: ["ring_of(made)", "ring_in(text)"],
        leadings: ["led_ring(ring, how)", "led(ring, how, weight)"],
        webs: ["need_web(ring, web)", "path_weight(ring, web, path)", "by_states(ring, web)"],
        rounds: ["by_rounds(ring, web, start)"],
        best: ["by_best(ring, web, start)"],
        showing: ["why_endless(ring, web, i, j)", "paper(ring, web, start)", "check(ring, web, start, row, paper)"],
        automata: ["need_automaton(thing, *, ring, alphabet)", "weight(automaton, word='', *, ring, alphabet)",
                   "vector(automaton, word='', *, ring, alphabet)",
                   "paths(automaton, word='', *, ring, alphabet, most=300)", "still(automaton, *, ring, alphabet)",
                   "trim(automaton, *, ring, alphabet)"],
        operations: ["added(one, other, *, ring, alphabet)", "scaled(factor, one, *, ring, alphabet)",
                     "met(one, other, *, ring, alphabet)", "followed(one, other, *, ring, alphabet)",
                     "repeated(one, *, ring, alphabet)"],
        dealings: ["turned(one, *, ring, alphabet)", "shuffled(one, other, *, ring, alphabet)",
                   "left(letter, one, *, ring, alphabet)", "renamed(one, letters, *, ring, alphabet)",
                   "spelled(one, words, *, ring, alphabet)", "led_automaton(one, how, *, ring, alphabet)"],
        expressions: ["need_expression(thing, *, ring, alphabet)", "is_plain(thing)",
                      "by_cuts(expression, word='', *, ring, alphabet)"],
        rests: ["rest(expression, letter, *, ring, alphabet)", "by_rests(expression, word='', *, ring, alphabet)"],
        places: ["placed(expression, *, ring, alphabet)", "automaton_of(expression, *, ring, alphabet)"],
        back: ["expression_of(automaton, *, ring, alphabet)"],
    }
    METHODS = ["made(self)", "zero(self)", "one(self)", "is_closed(self)", "is_few(self)", "good(self, thing)",
               "plus(self, a, b)", "times(self, a, b)", "star(self, a)", "many(self, a, count=2)",
               "power(self, a, count=2)", "total(self, weights)", "product(self, weights)", "written(self, a)",
               "worth(self, word)"]

    def test_functions_stand_in_their_files_as_told(self):
        for module, rows in self.WANTED.items():
            for row in rows:
                thing = vars(module)[row.split("(")[0]]
                self.assertEqual(thing.__module__, module.__name__)
                self.assertEqual(thing.__name__ + str(inspect.signature(thing)), row)

    def test_methods_of_ring(self):
        self.assertEqual(rings.Ring.__module__, "semirail.rings")
        for row in self.METHODS:
            thing = vars(rings.Ring)[row.split("(")[0]]
            self.assertEqual(thing.__name__ + str(inspect.signature(thing)), row)
        for name in ("__eq__", "__str__", "__repr__"):
            self.assertIn(name, vars(rings.Ring))

    def test_limits_and_errors_have_no_more(self):
        self.assertEqual({name for name in vars(limits) if not name.startswith("_")}, {"MOST", "DEEP", "LONG"})
        self.assertEqual({thing.__module__ for thing in vars(errors).values() if inspect.isclass(thing)},
                         {"semirail.errors"})


if __name__ == "__main__":
    unittest.main()

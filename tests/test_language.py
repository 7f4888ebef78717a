"""The rows of the package keep to the small language that it is written in, as far as a test can look."""

import ast
import builtins
import inspect
import pathlib
import unittest

import semirail
from semirail import automata, back, best, dealings, desk, errors, expressions, leadings, learner, limits, machines
from semirail import normed, operations, papers, places, reading, rests, ringof, rings, room, rounds, showing, texts
from semirail import transducers, webs, words

FOLDER = pathlib.Path(semirail.__file__).parent
FILES = sorted(FOLDER.glob("*.py"))
LIBRARY = {"heapq": {"heappush", "heappop", "heapify", "heapreplace", "heappushpop"},
           "math": {"gcd", "lcm", "isqrt", "comb", "perm", "factorial"},
           "itertools": {"product", "combinations", "permutations"}}
BUILTINS = set("""len range enumerate zip min max sum abs sorted reversed int str bool bytes list tuple dict set isinstance
ord repr any all divmod iter next map Exception ValueError TypeError KeyError IndexError LookupError ZeroDivisionError
ArithmeticError OverflowError RuntimeError NotImplementedError super property staticmethod classmethod""".split())
METHODS = set("""append clear copy count endswith extend find get index insert isalnum isalpha isdigit islower isspace
isupper items join keys ljust lower lstrip partition pop remove replace reverse rfind rjust rpartition rsplit rstrip
setdefault split splitlines startswith strip update upper values zfill bit_length removeprefix removesuffix add discard
sort""".split())
DUNDERS = {"__init__", "__eq__", "__repr__", "__str__", "__len__", "__iter__", "__call__"}
BARRED = {"type", "typing", "enum", "Enum", "Flag", "Generic", "Protocol", "ABC", "namedtuple", "NamedTuple", "eval",
          "exec", "getattr", "setattr", "globals", "register", "mro", "elements", "open", "input", "law"}
NODES = (ast.Global, ast.AsyncFunctionDef, ast.AsyncFor, ast.AsyncWith, ast.Await, ast.GeneratorExp, ast.Div,
         ast.TryStar, ast.AnnAssign, ast.SetComp)


def trees():
    """Each file with its text and its tree."""
    return [(path, path.read_text(encoding="utf-8"), ast.parse(path.read_text(encoding="utf-8"))) for path in FILES]


def bound_names(tree):
    """All names that a file binds, as variables, parameters, functions and classes."""
    for node in ast.walk(tree):
        if isinstance(node, ast.Name) and isinstance(node.ctx, ast.Store):
            yield node.id
        elif isinstance(node, ast.arg):
            yield node.arg
        elif isinstance(node, (ast.FunctionDef, ast.ClassDef)):
            yield node.name


class LanguageTest(unittest.TestCase):
    def test_folder(self):
        names = [path.name for path in FOLDER.iterdir() if path.name != "__pycache__"]
        self.assertEqual(sorted(names), [path.name for path in FILES])
        for name in names:
            self.assertRegex(name, r"^(__init__|[a-z][a-z0-9_]*)\.py$")

    def test_sizes_and_signs(self):
        for path, text, tree in trees():
            lines = text.split("\n")
            self.assertLessEqual(len(lines) - 1, 399, path)
            for line in lines:
                self.assertLessEqual(len(line), 120, (path, line))
            self.assertTrue(all(sign == "\n" or " " <= sign <= "~" for sign in text), path)
            for node in ast.walk(tree):
                if isinstance(node, ast.FunctionDef):
                    self.assertLessEqual(node.end_lineno - node.lineno + 1, 40, (path, node.name))
                    self.assertEqual(node.decorator_list, [])
                if isinstance(node, (ast.ClassDef, ast.Module)):
                    self.assertTrue(ast.get_docstring(node), path)

    def test_nodes(self):
        for path, _, tree in trees():
            for node in ast.walk(tree):
                self.assertNotIsInstance(node, NODES, path)
                if isinstance(node, ast.Constant):
                    self.assertNotIsInstance(node.value, (float, complex), path)
                    self.assertNotIn("%", node.value if isinstance(node.value, str) else "", path)
                if isinstance(node, ast.Compare):
                    for sign, side in zip(node.ops, node.comparators):
                        if isinstance(sign, (ast.Is, ast.IsNot)):
                            self.assertIn(getattr(side, "value", 0), (None, True, False), path)
                if isinstance(node, ast.ExceptHandler):
                    self.assertIsNotNone(node.type, path)
                if isinstance(node, ast.Call) and isinstance(node.func, ast.Name):
                    if node.func.id in ("any", "all", "sum", "min", "max"):
                        self.assertNotIsInstance(node.args[0], ast.GeneratorExp, path)

    def test_names(self):
        for path, text, tree in trees():
            top = [node.name for node in tree.body if isinstance(node, (ast.FunctionDef, ast.ClassDef))]
            self.assertEqual(len(top), len(set(top)), path)
            for name in bound_names(tree):
                self.assertFalse(name in vars(builtins) or name in BARRED, (path, name))
                self.assertFalse(name.startswith("__") and name not in DUNDERS, (path, name))
            for node in ast.walk(tree):
                if isinstance(node, ast.Name) and node.id in vars(builtins):
                    self.assertIn(node.id, BUILTINS, path)

    def test_no_variable_has_the_name_of_an_import_or_a_class(self):
        for path, _, tree in trees():
            barred = {name.name for node in tree.body if isinstance(node, ast.ImportFrom) for name in node.names}
            barred |= {node.name for node in tree.body if isinstance(node, ast.ClassDef)}
            for node in ast.walk(tree):
                if isinstance(node, ast.arg) or isinstance(node, ast.Name) and isinstance(node.ctx, ast.Store):
                    self.assertNotIn(node.arg if isinstance(node, ast.arg) else node.id, barred, path)
                if isinstance(node, ast.ExceptHandler) and node.name is not None:
                    self.assertNotIn(node.name, barred, path)

    def test_no_two_files_import_from_each_other(self):
        ways = {path.stem: [node.module[9:] for node in tree.body if isinstance(node, ast.ImportFrom)
                            and node.module.startswith("semirail.")] for path, _, tree in trees()}
        done = []
        while len(done) < len(ways):
            fit = [name for name, others in ways.items() if name not in done and all(other in done for other in others)]
            self.assertNotEqual(fit, [], sorted(set(ways) - set(done)))
            done += fit

    def test_no_name_is_a_method_and_an_attribute_of_a_class(self):
        for path, _, tree in trees():
            for kind in [node for node in tree.body if isinstance(node, ast.ClassDef)]:
                methods = [node.name for node in kind.body if isinstance(node, ast.FunctionDef)]
                self.assertEqual(len(methods), len(set(methods)), (path, kind.name))
                told = {node.attr for node in ast.walk(kind) if isinstance(node, ast.Attribute)
                        and isinstance(node.ctx, ast.Store)}
                self.assertEqual(told & set(methods), set(), (path, kind.name))

    def test_imports(self):
        for path, _, tree in trees():
            for node in ast.walk(tree):
                self.assertNotIsInstance(node, ast.Import, path)
                if isinstance(node, ast.ImportFrom) and node.module in LIBRARY:
                    self.assertLessEqual({name.name for name in node.names}, LIBRARY[node.module])
                elif isinstance(node, ast.ImportFrom):
                    self.assertTrue(node.module.startswith("semirail.") and node.level == 0, path)
                    home = ast.parse((FOLDER / f"{node.module[9:]}.py").read_text(encoding="utf-8"))
                    told = {*bound_names(home)}
                    self.assertLessEqual({name.name for name in node.names}, told, path)

    def test_methods(self):
        own = {node.name for _, _, tree in trees() for node in ast.walk(tree) if isinstance(node, ast.FunctionDef)}
        for path, _, tree in trees():
            for node in ast.walk(tree):
                if isinstance(node, ast.Call) and isinstance(node.func, ast.Attribute):
                    self.assertIn(node.func.attr, METHODS | own | {"__init__"}, path)


class InterfaceTest(unittest.TestCase):
    WANTED = {
        words: ["is_whole(thing, least, most)", "is_letter(thing)", "is_alphabet(thing)",
                "is_word(alphabet, thing, *, long=60)", "is_name(thing)", "shortlex(words)",
                "words_to(alphabet, length)", "cuts(word)", "number_in(word)", "rows_of(text)"],
        ringof: ["ring_of(made)", "ring_in(text)"],
        leadings: ["led_ring(ring, how)", "led(ring, how, weight)"],
        webs: ["need_web(ring, web)", "path_weight(ring, web, path)", "by_states(ring, web)"],
        rounds: ["by_rounds(ring, web, start)"],
        best: ["by_best(ring, web, start)"],
        showing: ["why_endless(ring, web, i, j)", "paper(ring, web, start)", "check(ring, web, start, row, paper)"],
        automata: ["need_automaton(thing, *, ring, alphabet)", "weight(automaton, word='', *, ring, alphabet)",
                   "vector(automaton, word='', *, ring, alphabet)",
                   "paths(automaton, word='', *, ring, alphabet, most=300)", "still(automaton, *, ring, alphabet)",
                   "trim(automaton, *, ring, alphabet)"],
        operations: ["added(one, other, *, ring, alphabet)", "scaled(factor, one, *, ring, alphabet)",
                     "met(one, other, *, ring, alphabet)", "followed(one, other, *, ring, alphabet)",
                     "repeated(one, *, ring, alphabet)"],
        dealings: ["turned(one, *, ring, alphabet)", "shuffled(one, other, *, ring, alphabet)",
                   "left(letter, one, *, ring, alphabet)", "renamed(one, letters, *, ring, alphabet)",
                   "spelled(one, words, *, ring, alphabet)", "led_automaton(one, how, *, ring, alphabet)"],
        expressions: ["need_expression(thing, *, ring, alphabet)", "is_plain(thing)",
                      "by_cuts(expression, word='', *, ring, alphabet)"],
        rests: ["rest(expression, letter, *, ring, alphabet)", "by_rests(expression, word='', *, ring, alphabet)"],
        places: ["placed(expression, *, ring, alphabet)", "automaton_of(expression, *, ring, alphabet)"],
        back: ["expression_of(automaton, *, ring, alphabet)"],
        transducers: ["need_transducer(thing, *, ring, alphabet)", "pair_weight(transducer, x, y, *, ring, alphabet)",
                      "written_by(transducer, x, *, ring, alphabet, most=300)",
                      "composed(one, other, *, ring, alphabet)", "sent(automaton, transducer, *, ring, alphabet)",
                      "asked_back(transducer, automaton, *, ring, alphabet)"],
        machines: ["machine_of(automaton, *, ring, alphabet, most=300)"],
        papers: ["parted(one, other)", "alike_paper(one, other)", "check_alike(one, other, paper)", "apart(one)",
                 "check_least(one, reached, rows)"],
        normed: ["normed(automaton, *, alphabet, most=60)"],
        room: ["room_of(rows, *, ring, alphabet)"],
        texts: ["expression_text(expression, *, ring, alphabet)", "automaton_text(automaton, *, ring, alphabet)",
                "room_text(room)"],
        reading: ["expression_in(text, *, ring, alphabet)", "automaton_in(text, *, ring, alphabet)", "room_in(text)"],
    }
    METHODS = {
        rings.Ring: ["made(self)", "zero(self)", "one(self)", "is_closed(self)", "is_few(self)", "good(self, thing)",
                     "plus(self, a, b)", "times(self, a, b)", "star(self, a)", "many(self, a, count=2)",
                     "power(self, a, count=2)", "total(self, weights)", "product(self, weights)", "written(self, a)",
                     "worth(self, word)", "__eq__(self, other)", "__str__(self)", "__repr__(self)"],
        machines.Machine: ["__init__(self, ring, alphabet, ends, moves)", "ring(self)", "alphabet(self)", "ends(self)",
                           "moves(self)", "run(self, word='')", "least(self)", "__len__(self)", "__eq__(self, other)",
                           "__str__(self)"],
    }
    METHODS.update({
        learner.Learner: ["__init__(self, ring, alphabet)", "ask(self)", "answer(self, thing)"],
        room.Room: ["__init__(self, ring, alphabet)", "put(self, name, expression, *, anew=False)", "drop(self, name)",
                    "together(self, deeds)", "undo(self)", "redo(self)", "names(self)", "expression(self, name)",
                    "plainer(self, name)", "weight(self, name, word='')", "automaton(self, name)", "rests(self, name)",
                    "least(self, name)", "alike(self, one, other)", "log(self)", "depth(self)", "ring(self)",
                    "alphabet(self)", "twin(self)", "__eq__(self, other)", "__len__(self)", "__str__(self)"],
        desk.Desk: ["__init__(self, text)", "say(self, line)"],
    })
    HOMES = {rings.Ring: "semirail.rings", machines.Machine: "semirail.machines", learner.Learner: "semirail.learner",
             room.Room: "semirail.room", desk.Desk: "semirail.desk"}

    def test_functions_stand_in_their_files_as_told(self):
        for module, rows in self.WANTED.items():
            for row in rows:
                thing = vars(module)[row.split("(")[0]]
                self.assertEqual(thing.__module__, module.__name__)
                self.assertEqual(thing.__name__ + str(inspect.signature(thing)), row)

    def test_methods_of_classes(self):
        self.assertEqual({kind: kind.__module__ for kind in self.METHODS}, self.HOMES)
        for kind, rows in self.METHODS.items():
            for row in rows:
                thing = vars(kind)[row.split("(")[0]]
                self.assertEqual(thing.__name__ + str(inspect.signature(thing)), row)

    def test_limits_and_errors_have_no_more(self):
        self.assertEqual({name for name in vars(limits) if not name.startswith("_")}, {"MOST", "DEEP", "LONG"})
        self.assertEqual({thing.__module__ for thing in vars(errors).values() if inspect.isclass(thing)},
                         {"semirail.errors"})


if __name__ == "__main__":
    unittest.main()

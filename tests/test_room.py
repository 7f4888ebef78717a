"""Rooms: what is put, dropped, undone and redone, what is refused, and what is told of names."""

import unittest

from semirail.automata import weight
from semirail.expressions import by_cuts
from semirail.machines import Machine, machine_of
from semirail.papers import parted
from semirail.places import automaton_of
from semirail.ringof import ring_of
from semirail.room import Room, room_of
from tests.automata import KINDS, words_up_to
from tests.expressions import otherwise, size
from tests.rooms import NAMES, Model, did, fault, named_expression, names_of, put_in, rests_on
from tests.samples import MADE, ODD, Numbers, Stranger, few, refusal, weights_of

TRUTH, COUNT, REST = ring_of(("truth",)), ring_of(("count",)), ring_of(("rest", 6))
A, B, ONE, ZERO = ("letter", "a"), ("letter", "b"), ("one",), ("zero",)
X, Y, Z = ("name", "x"), ("name", "y"), ("name", "z")
NO_NAMES = [None, "", "A", "aB", "abcdefghi", "a b", "a1", "-", 0, 1, True, b"a", ["a"], ("a",), Stranger(), {"a"}, "a\n"]
# One that lacks a star in the ring of rests by 6, in which 2 has none.
LACKS = ("repeated", ("scaled", 2, ONE))


def deep(many, last=A):
    """An expression so deep."""
    for _ in range(many - 1):
        last = ("turned", last)
    return last


def wide(many):
    """An expression of so many parts, not deep; the number is odd."""
    parts = [A] * ((many + 1) // 2)
    while len(parts) > 1:
        parts = [("added", one, other) for one, other in zip(parts[::2], parts[1::2])] + parts[len(parts) // 2 * 2:]
    return parts[0]


def room_with(ring=COUNT, **kept):
    """A room over a and b with some names."""
    room = Room(ring, "ab")
    for name, expression in kept.items():
        room.put(name, expression)
    return room


class DeedsTest(unittest.TestCase):
    """All deeds against the words of the document, by a model."""

    def test_many_deeds(self):
        numbers = Numbers(131)
        found = {}
        for made in KINDS + [("rest", 4), ("terms", 1)]:
            ring = ring_of(made)
            weights = weights_of(made)
            for _ in range(4):
                room, model = Room(ring, "ab"), Model(ring)
                for _ in range(60):
                    deed = self.deed(numbers, made, weights, model.kept)
                    before = (room.names(), room.twin())
                    what, told = did(room, deed)
                    wanted, fields = model.do(deed)
                    self.assertEqual(what, wanted, (made, deed, model.kept))
                    found[what] = found.get(what, 0) + 1
                    if fields is not None:
                        self.assertEqual(told, fields)
                    if what is not None:
                        self.assertTrue(room == before[1])
                    self.same(room, model)
        self.assertLessEqual({None, "BadName", "BadExpression", "Taken", "NoName", "InUse", "Round", "NoStar", "Nothing",
                              "TooDeep"}, set(found), found)

    def deed(self, numbers, made, weights, kept):
        """A deed that looks like chance."""
        turn = numbers.below(20)
        if turn < 2:
            return ("undo",) if turn else ("redo",)
        if turn == 2:
            return "together", [self.deed_of_one(numbers, made, weights, kept) for _ in range(numbers.below(4))]
        return self.deed_of_one(numbers, made, weights, kept)

    def deed_of_one(self, numbers, made, weights, kept):
        turn = numbers.below(30)
        name = numbers.one_of(NAMES) if turn else numbers.one_of(NO_NAMES)
        if turn % 5 == 4:
            return "drop", name
        expression = named_expression(numbers, made, "ab", 1 + numbers.below(9), list(kept) or NAMES[:1], weights)
        if turn == 1:
            expression = None
        if turn in (2, 3):
            expression = deep(25 * (turn - 1), expression)
        if turn == 5:
            expression = ("added", wide(149), expression)
        return "anew" if numbers.below(2) else "put", name, expression

    def same(self, room, model):
        """The room has the names, the expressions and the log of the model."""
        self.assertEqual(room.names(), list(model.kept))
        self.assertEqual(len(room), len(model.kept))
        self.assertEqual(room.log(), model.log)
        self.assertEqual(room.depth(), 0)
        for name, expression in model.kept.items():
            self.assertEqual(repr(room.expression(name)), repr(expression))
            self.assertEqual(repr(room.plainer(name)), repr(put_in(expression, model.kept)))
            self.assertEqual(room.rests(name), [other for other in model.kept if other in rests_on(name, model.kept)])

    def test_undo_and_redo(self):
        room = room_with(x=A)
        room.put("y", X)
        room.put("x", B, anew=True)
        room.together([("put", "z", Y), ("drop", "z"), ("put", "u", ONE)])
        room.drop("u")
        steps = [["x", "y"], ["x", "y", "u"], ["x", "y"], ["x", "y"], ["x"], []]
        for names in steps[1:]:
            room.undo()
            self.assertEqual(room.names(), names)
        self.assertEqual(refusal(room.undo)[0], "Nothing")
        for names in steps[-2::-1]:
            room.redo()
            self.assertEqual(room.names(), names)
        self.assertEqual(refusal(room.redo)[0], "Nothing")
        room.undo()
        room.undo()
        self.assertEqual(room.expression("x"), B)
        room.undo()
        self.assertEqual(room.expression("x"), A)
        # What is refused ends no redo; what is done does, also where nothing changes.
        for call, args in [(room.put, ("x", B)), (room.drop, ("x",)), (room.together, ([("drop", "y"), ("drop", "y")],)),
                           (room.together, (None,)), (room.put, ("", B))]:
            self.assertIsNotNone(refusal(call, *args)[0])
        room.redo()
        self.assertEqual(room.expression("x"), B)
        room.undo()
        room.put("x", A, anew=True)
        self.assertEqual(refusal(room.redo)[0], "Nothing")
        room.undo()
        room.together(())
        self.assertEqual(refusal(room.redo)[0], "Nothing")

    def test_deeds_by_which_nothing_changes(self):
        room = room_with(x=A)
        room.put("x", A, anew=True)
        room.together([])
        room.together([("put", "y", X), ("drop", "y")])
        self.assertEqual(room.names(), ["x"])
        for _ in range(3):
            room.undo()
            self.assertEqual(room.names(), ["x"])
        room.undo()
        self.assertEqual(room.names(), [])

    def test_log(self):
        room = room_with(x=A)
        room.put("x", B, anew=True)
        for deeds in [[("put", "y", X), ("anew", "x", A), ("drop", "q"), ("drop", "y")], [("put", "y", X), 3], None, ()]:
            refusal(room.together, deeds)
        refusal(room.drop, "X")
        refusal(room.put, 3, A)
        room.undo()
        refusal(room.put, "abcdefgh", X, anew=3)
        refusal(room.drop, ["x"])
        room.undo()
        refusal(room.undo)
        room.undo()
        refusal(room.undo)
        room.redo()
        self.assertEqual([" ".join(word or "-" for word in row) for row in room.log()], [
            "begin put x", "end put x done", "begin put x", "end put x done",
            "begin together -", "begin put y", "end put y done", "begin put x", "end put x done", "begin drop q",
            "end drop q refused", "end together - refused", "begin together -", "end together - refused",
            "begin together -", "end together - refused", "begin together -", "end together - done",
            "begin drop -", "end drop - refused", "begin put -", "end put - refused", "begin undo -", "end undo - done",
            "begin put abcdefgh", "end put abcdefgh done", "begin drop -", "end drop - refused",
            "begin undo -", "end undo - done", "begin undo -", "end undo - done", "begin undo -", "end undo - done",
            "begin undo -", "end undo - refused", "begin redo -", "end redo - done"])
        self.assertTrue(all(type(row) is tuple for row in room.log()))
        room.log().append(3)
        self.assertEqual(len(room.log()), 38)
        self.assertEqual(room.depth(), 0)

    def test_together(self):
        for row in (list, tuple):
            room = room_with(x=A)
            room.together(row([("put", "y", X), ("anew", "x", B), ("put", "z", Y), ("drop", "z")]))
            self.assertEqual([(name, room.expression(name)) for name in room.names()], [("x", B), ("y", X)])
            good = [("put", "u", Y), ("anew", "u", ONE), ("put", "v", ("name", "u"))]
            for bad, what in [(("put", "x", A), "Taken"), (("put", "X", A), "BadName"), (("put", "w", None), "BadExpression"),
                              (("drop", "w"), "NoName"), (("drop", "x"), "InUse"), (("anew", "x", Y), "Round"),
                              (("put", "w", Z), "NoName"), (("put", "w", deep(61)), "TooDeep"), (("drop", None), "NoName")]:
                for place in range(4):
                    before, many = room.twin(), len(room.log())
                    self.assertEqual(refusal(room.together, row(good[:place] + [bad] + good[place:]))[0], what)
                    self.assertTrue(room == before)
                    self.assertEqual(len(room.log()), many + 2 * (place + 2))
            room.undo()
            self.assertEqual(room.names(), ["x"])

    def test_bad_deeds(self):
        room = room_with(x=A)
        good = ("put", "y", A)
        bad = [None, (), [], ("put",), ("put", "y"), ("put", "y", A, A), ("drop",), ("drop", "x", A), ("anew", "x"),
               ("undo",), ("redo",), ("together", []), ("Put", "y", A), (None, "y", A), (["put"], "y", A), ["put", "y", A],
               ["drop", "x"], "put", 3, Stranger(), {"put": 1}, ("", "y", A), (("put",), "y", A), ("new", "y", A), (0, 1, 2)]
        for thing in bad:
            for deeds in [[thing], (thing,), [good, thing], [thing, good], [("drop", "q"), thing]]:
                log = room.log()
                self.assertEqual(refusal(room.together, deeds)[0], "BadDeed", thing)
                self.assertEqual(room.log(), log + [("begin", "together", ""), ("end", "together", "", "refused")])
        for thing in [None, 3, "put", "", {}, {good}, {good: 1}, iter([good]), Stranger(), good, ("drop", "x"), True]:
            self.assertEqual(refusal(room.together, thing)[0], "BadDeed", thing)
        self.assertEqual(room.names(), ["x"])
        deeds = [good]
        room.together(deeds)
        self.assertEqual(deeds, [good])


class RefusalsTest(unittest.TestCase):
    def test_names(self):
        room = room_with(x=A, y=X)
        for thing in NO_NAMES:
            for expression in (A, None, ("name", "q"), deep(61)):
                self.assertEqual(refusal(room.put, thing, expression)[0], "BadName", thing)
                self.assertEqual(refusal(room.put, thing, expression, anew=True)[0], "BadName", thing)
        for thing in NO_NAMES + ["q", "xy", ("name", "x")]:
            for call in (room.drop, room.expression, room.plainer, room.weight, room.automaton, room.rests, room.least):
                self.assertEqual(refusal(call, thing), ("NoName", (thing,)), call)
            self.assertEqual(refusal(room.weight, thing, None)[0], "NoName")
            self.assertEqual(refusal(room.alike, thing, "x"), ("NoName", (thing,)))
            self.assertEqual(refusal(room.alike, "x", thing), ("NoName", (thing,)))
        self.assertEqual(refusal(room.alike, "p", "q"), ("NoName", ("p",)))
        for thing in [None, "c", 1, b"a", ["a"], "a" * 61, Stranger()]:
            self.assertEqual(refusal(room.weight, "x", thing)[0], "BadWord", thing)

    def test_expressions(self):
        room = room_with(x=A)
        whole = ("followed", ("added", X, ("scaled", 3, A)), ("left", "b", ("repeated", ("met", X, B))))
        bad = [thing for thing in otherwise(whole, "ab") if not ok(thing)]
        self.assertGreater(len(bad), 300)
        for thing in bad + ODD:
            self.assertEqual(refusal(room.put, "y", thing)[0], "BadExpression", thing)
            self.assertEqual(refusal(room.put, "x", thing)[0], "BadExpression", thing)
        for thing in [("name",), ("name", "X"), ("name", ""), ("name", X), ("name", "x", "x"), ("name", None), ("name", ["x"]),
                      ("name", "abcdefghi"), ["name", "x"], ("added", X, ("name", "X"))]:
            self.assertEqual(refusal(room.put, "y", thing)[0], "BadExpression", thing)
        self.assertEqual(room.names(), ["x"])

    def test_order(self):
        room = room_with(ring=REST, x=A, y=X)
        self.assertEqual(refusal(room.put, "x", ("added", ("name", "q"), Y)), ("Taken", ("x",)))
        told = ("added", ("followed", Y, ("name", "q")), ("name", "p"))
        self.assertEqual(refusal(room.put, "x", told, anew=True), ("NoName", ("q",)))
        self.assertEqual(refusal(room.put, "x", ("added", Y, deep(70, LACKS)), anew=True), ("Round", (("x", "y"),)))
        self.assertEqual(refusal(room.put, "x", deep(70, LACKS), anew=True), ("TooDeep", ("x",)))
        self.assertEqual(refusal(room.put, "x", LACKS, anew=True)[0], "NoStar")
        self.assertEqual(refusal(room.put, "z", deep(70, LACKS)), ("TooDeep", ("z",)))
        self.assertEqual(refusal(room.put, "z", ("added", Z, ("name", "q"))), ("NoName", ("q",)))
        self.assertEqual(refusal(room.put, "z", ("added", ("name", "p"), ("name", "q"))), ("NoName", ("p",)))
        self.assertEqual(refusal(room.drop, "x"), ("InUse", (("y",),)))

    def test_the_first_name_in_order_that_would_be_none(self):
        # With x as 2 times one, y lacks a star; z is too deep or not by what x is.
        room = room_with(ring=REST, x=A, y=("repeated", X), z=deep(58, X))
        self.assertEqual(refusal(room.put, "x", ("scaled", 2, ONE), anew=True)[0], "NoStar")
        self.assertEqual(refusal(room.put, "x", deep(5, ("scaled", 2, ONE)), anew=True)[0], "NoStar")
        self.assertEqual(refusal(room.put, "x", deep(5), anew=True), ("TooDeep", ("z",)))
        other = room_with(ring=REST, x=A, z=deep(58, X), y=("repeated", X))
        self.assertEqual(refusal(other.put, "x", deep(5, ("scaled", 2, ONE)), anew=True), ("TooDeep", ("z",)))
        # Of one name that it is too deep goes ahead.
        both = room_with(ring=REST, x=A, z=deep(58, ("repeated", X)))
        self.assertEqual(refusal(both.put, "x", deep(5, ("scaled", 2, ONE)), anew=True), ("TooDeep", ("z",)))

    def test_round(self):
        room = room_with(x=A, y=X, z=("added", X, Y), u=("met", Z, B), v=("name", "u"))
        self.assertEqual(refusal(room.put, "w", ("turned", ("name", "w"))), ("Round", (("w",),)))
        self.assertEqual(refusal(room.put, "x", X, anew=True), ("Round", (("x",),)))
        self.assertEqual(refusal(room.put, "y", ("name", "v"), anew=True), ("Round", (("y", "v", "u", "z"),)))
        for name in "xyzu":
            for other in "xyzuv":
                what, fields = refusal(room.twin().put, name, ("added", B, ("name", other)), anew=True)
                kept = {each: room.expression(each) for each in room.names()}
                kept[name] = ("added", B, ("name", other))
                self.assertEqual(what, "Round" if name in rests_on(name, kept) else None)
                if what:
                    circle, = fields
                    self.assertEqual((circle[0], type(circle)), (name, tuple))
                    for each, then in zip(circle, circle[1:] + circle[:1]):
                        self.assertIn(then, names_of(kept[each]))
                    self.assertEqual(len(set(circle)), len(circle))

    def test_bounds(self):
        for many in (58, 59, 60):
            self.assertIsNone(refusal(room_with().put, "x", deep(many))[0])
        for many in (61, 62, 99):
            self.assertEqual(refusal(room_with().put, "x", deep(many)), ("TooDeep", ("x",)))
        for many in (297, 299):
            self.assertEqual(size(wide(many))[0], many)
            room = room_with(x=wide(many))
            told = refusal(room.put, "x", ("turned", wide(many)), anew=True)
            self.assertEqual(told[0], None, many)
            self.assertEqual(refusal(room.put, "y", ("turned", ("turned", X)))[0], None if many < 299 else "TooDeep")
        self.assertEqual(refusal(room_with().put, "x", wide(301)), ("TooDeep", ("x",)))
        self.assertEqual(refusal(room_with().put, "x", wide(30001)), ("TooDeep", ("x",)))
        room = room_with(x=wide(299))
        room.put("y", ("turned", X))
        self.assertEqual(refusal(room.put, "z", ("turned", Y)), ("TooDeep", ("z",)))
        room.put("z", Y)
        self.assertEqual(refusal(room.put, "u", ("added", Z, A)), ("TooDeep", ("u",)))

    def test_expressions_that_grow_by_names(self):
        room = room_with(a=A)
        for at, name in enumerate("bcdefgh"):
            room.put(name, ("followed", ("name", "abcdefgh"[at]), ("name", "abcdefgh"[at])))
        self.assertEqual(size(room.plainer("h"))[0], 255)
        self.assertEqual(refusal(room.put, "i", ("added", ("name", "h"), ("name", "h"))), ("TooDeep", ("i",)))
        self.assertEqual(room.weight("e", "a" * 16), 1)
        # Parts of the same tuples many times over: far more than can be walked through.
        same = A
        for _ in range(55):
            same = ("added", same, same)
        self.assertEqual(refusal(room.put, "x", same), ("TooDeep", ("x",)))
        self.assertEqual(refusal(room.put, "x", ("added", None, same))[0], "BadExpression")
        self.assertEqual(refusal(room.put, "x", ("added", ("name", "q"), same)), ("NoName", ("q",)))
        self.assertIsNotNone(refusal(room.put, "x", ("added", same, None))[0])
        # Names that are others' names over and over make none deeper.
        long = room_with(a=deep(60))
        names = ["a"] + [one + other for one in "bcdefghijklmnopqrstu" for other in "abcdefghijklmnopqrstu"]
        for name, then in zip(names, names[1:]):
            long.put(then, ("name", name))
        self.assertEqual(long.plainer(names[-1]), deep(60))
        self.assertEqual(long.rests(names[-1]), names[:-1])
        self.assertEqual(refusal(long.put, "a", deep(61), anew=True), ("TooDeep", ("a",)))
        long.put("a", ONE, anew=True)
        self.assertEqual(long.plainer(names[-1]), ONE)
        self.assertEqual(refusal(long.put, "a", ("name", names[-1]), anew=True)[0], "Round")

    def test_anew_by_which_others_become_none(self):
        room = room_with(x=A, y=deep(58, X), z=("added", Y, Y))
        self.assertEqual(refusal(room.put, "x", deep(3), anew=True), ("TooDeep", ("z",)))
        room.drop("z")
        room.put("x", deep(3), anew=True)
        self.assertEqual(refusal(room.put, "x", deep(4), anew=True), ("TooDeep", ("y",)))
        great = room_with(x=A, y=("added", X, ("added", X, X)), z=("added", Y, Y))
        great.put("x", wide(47), anew=True)
        self.assertEqual(size(great.plainer("z"))[0], 287)
        self.assertEqual(refusal(great.put, "x", wide(51), anew=True), ("TooDeep", ("z",)))
        self.assertEqual(refusal(great.put, "x", wide(101), anew=True), ("TooDeep", ("y",)))

    def test_anew_keeps_its_place(self):
        room = room_with(x=A, y=B, z=ONE)
        room.put("y", ZERO, anew=True)
        self.assertEqual(room.names(), ["x", "y", "z"])
        room.put(name="w", expression=ZERO, anew=True)
        self.assertEqual(room.names(), ["x", "y", "z", "w"])
        room.drop("x")
        room.put("x", A)
        self.assertEqual(room.names(), ["y", "z", "w", "x"])

    def test_in_use(self):
        room = room_with(x=A, z=X, y=("added", X, X), u=Y)
        self.assertEqual(refusal(room.drop, "x"), ("InUse", (("z", "y"),)))
        self.assertEqual(refusal(room.drop, name="y"), ("InUse", (("u",),)))
        room.drop("u")
        room.drop("y")
        self.assertEqual(refusal(room.drop, "x"), ("InUse", (("z",),)))

    def test_no_star_where_it_stands(self):
        for within in [LACKS, ("met", ZERO, LACKS), ("turned", LACKS), ("shuffled", A, LACKS), ("left", "a", LACKS),
                       ("repeated", ("left", "a", ("scaled", 2, A)))]:
            self.assertEqual(refusal(room_with(ring=REST).put, "x", within)[0], "NoStar")
            self.assertEqual(refusal(room_with(ring=COUNT).put, "x", within)[0], None)
            room = room_with(ring=REST, x=A, y=("followed", ZERO, X))
            self.assertEqual(refusal(room.put, "x", within, anew=True)[0], "NoStar")
        # With many that make pairs no automaton is promised, but this is.
        many = A
        for _ in range(9):
            many = ("met", ("shuffled", many, ONE), many) if size(many)[0] < 60 else ("met", many, A)
        self.assertIsNone(refusal(room_with(ring=REST).put, "x", ("repeated", many))[0])
        self.assertEqual(refusal(room_with(ring=REST).put, "x", ("repeated", ("added", many, ("scaled", 2, ONE))))[0],
                         "NoStar")
        room = room_with(ring=REST, x=many)
        self.assertEqual(room.weight("x", "a"), 1)
        self.assertEqual(room.weight("x", "ab"), 0)

    def test_weights_where_no_automaton_is_promised(self):
        # Eight words of four letters dealt together: an automaton of these would have far too many states.
        whole = None
        for letters in ("aabb", "abab", "abba", "baab", "baba", "bbaa", "aaaa", "bbbb"):
            word = ("added", ONE, ("followed", ("letter", letters[0]), ("letter", letters[1])))
            for letter in letters[2:]:
                word = ("added", ("followed", word, ("letter", letter)), ("scaled", 3, ONE))
            whole = word if whole is None else ("shuffled", whole, word)
        room = room_with(x=whole, y=("name", "x"))
        self.assertEqual(room.weight("y"), 3 ** 8)
        for word in ("a", "ba", "aab"):
            self.assertEqual(room.weight("y", word), by_cuts(whole, word, ring=COUNT, alphabet="ab"))

    def test_no_rooms(self):
        for thing in ODD + [("truth",)]:
            self.assertEqual(refusal(Room, thing, "ab"), ("BadRing", ("ring",)))
            self.assertEqual(refusal(Room, thing, None), ("BadRing", ("ring",)))
            self.assertEqual(refusal(room_of, None, ring=thing, alphabet=None), ("BadRing", ("ring",)))
        for thing in [None, "", "ba", "aa", "aB", "abcdefg", ["a"], ("a",), 1, b"ab", Stranger()]:
            self.assertEqual(refusal(Room, COUNT, thing)[0], "BadWord", thing)
            self.assertEqual(refusal(room_of, None, ring=COUNT, alphabet=thing)[0], "BadWord", thing)


def ok(thing):
    """Whether a thing is an expression over a and b in the ring count, perhaps with names."""
    if not isinstance(thing, tuple) or not thing or not isinstance(thing[0], str):
        return False
    forms = {"zero": "", "one": "", "letter": "l", "scaled": "we", "added": "ee", "followed": "ee", "repeated": "e",
             "met": "ee", "turned": "e", "shuffled": "ee", "left": "le", "name": "n"}
    form = forms.get(thing[0])
    if form is None or len(form) != len(thing) - 1:
        return False
    tests = {"l": lambda part: part in ("a", "b"), "w": COUNT.good, "e": ok,
             "n": lambda part: isinstance(part, str) and part.isalpha() and part.islower() and len(part) < 9}
    return all(tests[sign](part) for sign, part in zip(form, thing[1:]))


class ToldTest(unittest.TestCase):
    def test_what_is_told_of_names(self):
        numbers = Numbers(132)
        for made in MADE:
            ring = ring_of(made)
            more = {"ring": ring, "alphabet": "ab"}
            room = Room(ring, "ab")
            for _ in range(25):
                expression = named_expression(numbers, made, "ab", 1 + numbers.below(6), room.names())
                refusal(room.put, numbers.one_of(NAMES), expression, anew=numbers.below(3) == 0)
                if numbers.below(6) == 0:
                    refusal(room.undo)
            for name in room.names():
                plainer = room.plainer(name)
                if sum(part in ("met", "shuffled") for part in str(plainer).split("'")) > 4:
                    continue
                automaton = room.automaton(name)
                self.assertEqual(automaton, automaton_of(plainer, **more))
                for word in words_up_to("ab", 3):
                    self.assertEqual(repr(room.weight(name, word)), repr(by_cuts(plainer, word, **more)))
                    self.assertEqual(repr(weight(automaton, word, **more)), repr(room.weight(name, word)))
                self.machines(room, name, made, automaton)

    def machines(self, room, name, made, automaton):
        """What is told of a name's machine is what is told of its automaton's."""
        more = {"ring": room.ring(), "alphabet": "ab"}
        what, told = refusal(machine_of, automaton, **more)
        self.assertEqual(what == "NotFew", not few(made))
        self.assertEqual(refusal(room.least, name)[0], what)
        if what is not None:
            self.assertEqual(refusal(room.alike, name, name)[0], what)
            return
        self.assertEqual(room.least(name), told.least())
        for other in room.names():
            what, machine = refusal(machine_of, room.automaton(other), **more)
            if what is None:
                self.assertEqual(room.alike(name, other), parted(told, machine))

    def test_by_hand(self):
        room = room_with(ring=TRUTH, x=("repeated", A), y=("followed", X, X), z=("added", Y, B))
        self.assertEqual(room.weight("y"), True)
        self.assertEqual(room.weight(word="ab", name="z"), False)
        self.assertIsNone(room.alike("x", "y"))
        self.assertEqual(room.alike(other="z", one="y"), "b")
        self.assertEqual(room.least("y"), Machine(TRUTH, "ab", (True, False), ((0, 1), (1, 1))))
        self.assertEqual(room.rests("z"), ["x", "y"])
        self.assertEqual(room.rests("x"), [])
        self.assertEqual(room.plainer("y"), ("followed", ("repeated", A), ("repeated", A)))
        self.assertEqual(room.expression("y"), ("followed", X, X))
        self.assertEqual(refusal(room_with(x=A).least, "x")[0], "NotFew")
        self.assertEqual(refusal(room_with(x=A).alike, "x", "x")[0], "NotFew")
        self.assertEqual(refusal(room_with(x=A).alike, "x", "y"), ("NoName", ("y",)))

    def test_too_many_vectors(self):
        great = ring_of(("rest", 1000))
        # As many times as the word has letters "a", by their rest.
        room = room_with(ring=great, x=("followed", ("repeated", A), ("followed", A, ("repeated", A))))
        many = refusal(machine_of, room.automaton("x"), ring=great, alphabet="ab", most=10 ** 4)
        self.assertGreater(len(many[1]), 300)
        self.assertEqual(refusal(room.least, "x"), ("TooMany", (300,)))
        room.put("y", A)
        self.assertEqual(refusal(room.alike, "y", "x"), ("TooMany", (300,)))
        self.assertEqual(len(room.least("y")), 3)

    def test_rests_in_order(self):
        room = room_with(z=A, y=B, x=("added", Y, Z))
        room.put("z", Y, anew=True)
        self.assertEqual(room.rests("x"), ["z", "y"])
        told = room.rests("x")
        told.append("u")
        self.assertEqual(room.rests("x"), ["z", "y"])
        room.names().clear()
        self.assertEqual(room.names(), ["z", "y", "x"])

    def test_twin(self):
        room = room_with(x=A, y=X)
        room.undo()
        twin = room.twin()
        self.assertTrue(room == twin)
        self.assertEqual(twin.log(), room.log())
        self.assertEqual((twin.ring(), twin.alphabet(), twin.depth()), (COUNT, "ab", 0))
        twin.redo()
        self.assertEqual((room.names(), twin.names()), (["x"], ["x", "y"]))
        room.put("z", B)
        self.assertEqual(refusal(room.redo)[0], "Nothing")
        twin.undo()
        twin.undo()
        self.assertEqual((room.names(), twin.names()), (["x", "z"], []))
        self.assertEqual(refusal(twin.undo)[0], "Nothing")
        self.assertEqual(len(room.log()), 10)
        self.assertEqual(len(twin.log()), 14)
        room.undo()
        room.undo()
        self.assertTrue(room == twin)
        twin.redo()
        twin.redo()
        self.assertEqual(twin.names(), ["x", "y"])

    def test_alike_len_and_text(self):
        room = room_with(x=A, y=X)
        same = Room(COUNT, "ab")
        same.put("x", B)
        same.put("y", X)
        self.assertFalse(room == same)
        same.put("x", A, anew=True)
        self.assertTrue(room == same)
        self.assertFalse(room != same)
        others = [Room(COUNT, "ab"), room_with(y=A, x=A), room_with(ring=REST, x=A, y=X), room_with(x=A), None, str(room), 2,
                  ["x", "y"], room_with(x=A, y=A), room_of([("y", X), ("x", A)], ring=COUNT, alphabet="ab"),
                  room_of([("x", A), ("y", X)], ring=COUNT, alphabet="abc")]
        for other in others:
            self.assertFalse(room == other)
        self.assertEqual([len(Room(COUNT, "ab")), len(room)], [0, 2])
        self.assertEqual(str(room), "ring count\nletters ab\nput x letter a\nput y name x")
        self.assertEqual(str(Room(alphabet="xz", ring=ring_of(("lot", 3)))), "ring lot 3\nletters xz")
        self.assertEqual((room.ring(), room.alphabet()), (COUNT, "ab"))


class RoomOfTest(unittest.TestCase):
    GOOD = [("y", ("added", X, Z)), ("x", A), ("z", ("repeated", X)), ("name", ("name", "z")), ("u", ONE)]

    def test_good_ones(self):
        room = room_of(self.GOOD, ring=COUNT, alphabet="ab")
        self.assertEqual(room.names(), ["y", "x", "z", "name", "u"])
        self.assertEqual([(name, room.expression(name)) for name in room.names()], self.GOOD)
        self.assertEqual((room.log(), room.depth()), ([], 0))
        self.assertEqual((refusal(room.undo)[0], refusal(room.redo)[0]), ("Nothing", "Nothing"))
        self.assertEqual(room.plainer("y"), ("added", A, ("repeated", A)))
        self.assertEqual(len(room_of(alphabet="ab", ring=COUNT, rows=[])), 0)
        room.put("v", Y)
        room.drop("u")
        self.assertEqual(room.names(), ["y", "x", "z", "name", "v"])
        self.assertEqual(len(self.GOOD), 5)

    def test_one_row_otherwise(self):
        bad = [None, [], (), ("v",), ("v", A, A), ["v", A], ("V", A), (None, A), ("v", None), ("v", ("letter", "c")),
               ("v", ("name", "q")), ("y", A), ("v", ["letter", "a"]), (A, "v"), "va", 3, Stranger(), ("v", ("name", "V")),
               (["v"], A), ("v", ("scaled", -1, A)), {"v": A}]
        for thing in bad:
            for place in range(len(self.GOOD) + 1):
                rows = self.GOOD[:place] + [thing] + self.GOOD[place:]
                wanted = place + 1
                if thing == ("y", A) and place == 0:
                    wanted = 2
                self.assertEqual(refusal(room_of, rows, ring=COUNT, alphabet="ab"), ("BadLine", (wanted,)), (thing, place))
        for thing in [None, tuple(self.GOOD), dict(self.GOOD), "", 3, Stranger(), iter(self.GOOD), {}]:
            self.assertEqual(refusal(room_of, thing, ring=COUNT, alphabet="ab"), ("BadLine", (0,)), thing)
        for place in range(len(self.GOOD)):
            rows = self.GOOD[:place] + self.GOOD[place + 1:]
            wanted = {0: None, 1: 1, 2: 1, 3: None, 4: None}[place]
            told = refusal(room_of, rows, ring=COUNT, alphabet="ab")
            self.assertEqual(told[1] if told[0] else None, None if wanted is None else (wanted,))

    def test_a_bad_row_puts_its_name(self):
        rows = [("x", Y), ("y", None)]
        self.assertEqual(refusal(room_of, rows, ring=COUNT, alphabet="ab"), ("BadLine", (2,)))
        for row in [("y",), ["y", A], ("y", A, A), (("y",), A)]:
            self.assertEqual(refusal(room_of, [("x", Y), row], ring=COUNT, alphabet="ab"), ("BadLine", (1,)))

    def test_rounds_and_bounds(self):
        for rows, line in [
            ([("x", X)], 1), ([("x", A), ("y", Z), ("z", Y)], 2), ([("x", Y), ("y", Y)], 1), ([("u", A), ("x", Y), ("y", Y)], 2),
            ([("x", deep(61))], 1), ([("x", deep(60)), ("y", ("turned", X))], 2), ([("y", ("turned", X)), ("x", deep(60))], 1),
            ([("x", wide(301))], 1), ([("y", ("added", X, X)), ("x", wide(151))], 1), ([("x", A), ("y", LACKS)], 2),
            ([("y", X), ("u", A), ("x", LACKS)], 1), ([("y", ("repeated", X)), ("x", ("scaled", 2, ONE))], 1),
            ([("u", ("name", "v")), ("v", A), ("x", X), ("z", None)], 4), ([("x", deep(61)), ("y", LACKS), ("x", A)], 3),
            ([("y", LACKS), ("x", deep(61))], 1),
        ]:
            self.assertEqual(refusal(room_of, rows, ring=REST, alphabet="ab"), ("BadLine", (line,)), rows)

    def test_random_rows(self):
        numbers = Numbers(133)
        seen = set()
        for turn in range(400):
            made = [("count",), ("rest", 6), ("truth",)][turn % 3]
            ring = ring_of(made)
            names = numbers.one_of([NAMES[:2], NAMES[:4], NAMES])
            rows = [(name, named_expression(numbers, made, "ab", 1 + numbers.below(5), names)) for name in names]
            kept = dict(rows)
            wanted = [at + 1 for at, name in enumerate(kept) if fault(ring, name, kept)]
            what, told = refusal(room_of, rows, ring=ring, alphabet="ab")
            self.assertEqual(told if what else None, (wanted[0],) if wanted else None, rows)
            seen.add(what)
            if what is None:
                for name in names:
                    self.assertEqual(told.plainer(name), put_in(kept[name], kept))
        self.assertEqual(seen, {None, "BadLine"})


if __name__ == "__main__":
    unittest.main()

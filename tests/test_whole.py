"""Point 1 over the whole program: what is returned is new, what is handed in is not kept, and all can be passed by name."""

import inspect
import unittest

from modulehall import entries, errors, graph, leading, meanings, moving, scopes, shelves, texts, worlds
from modulehall.moving import Cant, Moved
from tests.kit import let, package, plain, say, shelf, tell, use

M, N, O = ("m",), ("n",), ("o",)
ROWS = (let("x"), let("y"))


def places():
    return {"home": {
        M: plain(let("x"), use("n", "k"), ("lazy", O, "l"), tell(3)), N: plain(), O: plain(), ("p",): package(use("r", "r")),
        ("r",): plain(use("p", "p")),
    }, "last": {("p", "q"): plain()}}


def given():
    return shelves.Shelf(places())


def hall():
    """A world in which something has happened."""
    world = worlds.World({"one": given(), "two": given()})
    world.load(M)
    world.put("home", ("z",), "plain", ROWS, edition="two")
    return world


# The interface: each function and method with its parameters, those by name alone after a star.
INTERFACE = {
    scopes.bound: "rows", scopes.reached: "rows", shelves.Shelf.places: "self", shelves.Shelf.found: "self path",
    shelves.Shelf.paths: "self", worlds.World.load: "self path * edition", worlds.World.again: "self path * edition",
    worlds.World.forget: "self", worlds.World.put: "self place path sort rows * edition",
    worlds.World.cut: "self place path * edition",
    worlds.World.do: "self row", worlds.World.editions: "self", worlds.World.table: "self * edition",
    worlds.World.names: "self path * edition",
    worlds.World.value: "self path name * edition", worlds.World.said: "self", worlds.World.log: "self",
    meanings.meaning: "shelf path name", entries.entries: "shelf * most", moving.moved: "shelf path name other * most",
    leading.relocated: "shelf path other * most", graph.uses: "shelf path", graph.late_uses: "shelf path", graph.rings: "shelf",
    graph.turn: "shelf", texts.written: "rows", texts.read: "text", shelves.Shelf.__init__: "self places",
    worlds.World.__init__: "self shelves * most", Moved.__init__: "self shelf", Cant.__init__: "self word path",
    errors.BadRows.__init__: "self at", errors.BadText.__init__: "self row", errors.Fell.__init__: "self word path",
}
DEFAULTS = {"edition": None, "most": 500}

# Each call with its arguments by name, in an order other than that of the interface, and what it returns.
QUERIES = (
    (scopes.bound, {"rows": ROWS}, [("x", "let"), ("y", "let")]),
    (scopes.reached, {"rows": (say("x"), say("a"))}, ["a", "x"]),
    (lambda **named: given().places(**named), {}, places()),
    (lambda **named: given().found(**named), {"path": M}, "home"),
    (lambda **named: given().paths(**named), {}, [M, N, O, ("p",), ("r",)]),
    (lambda **named: hall().editions(**named), {}, ["one", "two"]),
    (lambda **named: hall().table(**named), {"edition": "one"}, [M, N]),
    (lambda **named: hall().names(**named), {"edition": "one", "path": M}, ["x", "k", "l"]),
    (lambda **named: hall().value(**named), {"edition": "one", "name": "l", "path": M}, ("lazy", O)),
    (lambda **named: hall().said(**named), {}, [("one", M, 3)]),
    (lambda **named: hall().log(**named), {}, [("load", M, None), ("put", "home", ("z",), "plain", ROWS, "two")]),
    (meanings.meaning, {"name": "k", "path": M, "shelf": given()}, ("module", N)),
    (entries.entries, {"most": 4, "shelf": shelf({"a": plain(*ROWS)})}, [(("a",), ("whole", [("a",)]))]),
    (moving.moved, {"most": 9, "other": O, "name": "x", "path": M, "shelf": given()}, None),
    (leading.relocated, {"most": 9, "other": ("q",), "path": N, "shelf": given()}, None),
    (graph.uses, {"path": M, "shelf": given()}, [N]),
    (graph.late_uses, {"path": M, "shelf": given()}, [O]),
    (graph.rings, {"shelf": given()}, [[("p",), ("r",)]]),
    (graph.turn, {"shelf": given()}, [N, M, O, ("p",), ("r",)]),
    (texts.written, {"rows": ROWS}, "let x = 1\nlet y = 1\n"),
    (texts.read, {"text": "let x = 1\nlet y = 1\n"}, ROWS),
)


def spoil(value):
    """Change all lists and dicts in a value."""
    if isinstance(value, (list, tuple)):
        for each in value:
            spoil(each)
    if isinstance(value, dict):
        for each in value.values():
            spoil(each)
    if isinstance(value, (list, dict)):
        value.clear()


def same_kinds(case, value, expected):
    """Fail unless two equal values are of the same kinds throughout."""
    case.assertIs(type(value), type(expected))
    if isinstance(value, (list, tuple)):
        for each, other in zip(value, expected):
            same_kinds(case, each, other)
    if isinstance(value, dict):
        for key in value:
            same_kinds(case, value[key], expected[key])


class Interface(unittest.TestCase):
    def test_parameters(self):
        for function, words in INTERFACE.items():
            before, _, behind = words.partition("*")
            parameters = inspect.signature(function).parameters
            with self.subTest(function=function.__qualname__):
                self.assertEqual(list(parameters), before.split() + behind.split())
                for each in parameters.values():
                    kind = each.KEYWORD_ONLY if each.name in behind.split() else each.POSITIONAL_OR_KEYWORD
                    self.assertEqual(each.kind, kind)
                    self.assertEqual(each.default, DEFAULTS.get(each.name, each.empty) if kind == each.KEYWORD_ONLY else each.empty)

    def test_methods_are_defined_in_the_class_itself(self):
        for owner, words in (
            (shelves.Shelf, "__init__ __eq__ places found paths"), (Moved, "__init__ __eq__"), (Cant, "__init__ __eq__"),
            (worlds.World, "__init__ load again forget put cut do editions table names value said log"),
        ):
            for word in words.split():
                self.assertIn(word, vars(owner))

    def test_most(self):
        self.assertEqual(worlds.MOST, 500)
        for function in (worlds.World, entries.entries, moving.moved, leading.relocated):
            self.assertEqual(inspect.signature(function).parameters["most"].default, 500)

    def test_everything_by_name(self):
        for function, named, expected in QUERIES:
            with self.subTest(expected=expected):
                value = function(**named)
                if expected is not None:
                    self.assertEqual(value, expected)
                    same_kinds(self, value, expected)
                else:
                    self.assertIsInstance(value, Moved)

    def test_commands_by_name_return_nothing(self):
        world = hall()
        self.assertIsNone(world.load(edition="two", path=("z",)))
        self.assertIsNone(world.again(edition="two", path=("z",)))
        self.assertIsNone(world.put(edition="one", rows=(), sort="wide", path=("z",), place="home"))
        self.assertIsNone(world.cut(edition="one", path=("z",), place="home"))
        self.assertIsNone(world.do(row=("forget",)))
        self.assertIsNone(world.forget())
        self.assertEqual(len(world.log()), 8)

    def test_classes_by_name(self):
        self.assertEqual(shelves.Shelf(places=places()), given())
        self.assertEqual(worlds.World(most=0, shelves={"one": given()}).editions(), ["one"])


class New(unittest.TestCase):
    def test_what_is_returned_can_be_changed(self):
        for function, named, expected in QUERIES:
            with self.subTest(expected=expected):
                if expected is not None:
                    spoil(function(**named))
                    self.assertEqual(function(**named), expected)

    def test_what_a_shelf_and_a_world_return_can_be_changed(self):
        kept, world = given(), hall()
        for query, expected in (
            (kept.places, places()), (kept.paths, [M, N, O, ("p",), ("r",)]), (world.editions, ["one", "two"]), (world.table, [M, N]),
            (lambda: world.names(M), ["x", "k", "l"]), (world.said, [("one", M, 3)]),
            (world.log, [("load", M, None), ("put", "home", ("z",), "plain", ROWS, "two")]),
        ):
            spoil(query())
            self.assertEqual(query(), expected)

    def test_places_that_are_handed_in_are_not_kept(self):
        handed = places()
        kept = shelves.Shelf(handed)
        spoil(handed)
        self.assertEqual(kept, given())

    def test_shelves_that_are_handed_in_are_not_kept(self):
        handed = {"one": given()}
        world = worlds.World(handed)
        handed.clear()
        self.assertEqual(world.editions(), ["one"])
        world.load(M)

    def test_worlds_do_not_change_shelves(self):
        kept = given()
        first, second = worlds.World({"one": kept, "two": kept}), worlds.World({"one": kept})
        first.put("home", M, "wide", ())
        first.cut("home", N)
        self.assertEqual(kept, given())
        second.load(M)
        self.assertEqual(second.said(), [("one", M, 3)])
        first.load(M, edition="two")
        self.assertEqual(first.said(), [("two", M, 3)])

    def test_functions_do_not_change_shelves(self):
        kept = given()
        for function, named, _ in QUERIES:
            if "shelf" in named:
                function(**{**named, "shelf": kept, "path": M} if "path" in named else {**named, "shelf": kept})
                self.assertEqual(kept, given())

    def test_new_shelves_are_apart_from_old_ones(self):
        kept = given()
        for result in (moving.moved(kept, M, "x", O), leading.relocated(kept, N, ("q",))):
            self.assertIsNot(result.shelf, kept)
            spoil(result.shelf.places())
            world = worlds.World({"one": result.shelf})
            world.cut("home", M)
            self.assertEqual(result.shelf.found(M), "home")
            self.assertEqual(kept, given())

    def test_what_is_read_again_is_not_changed_by_errors(self):
        for text in ("nothing\n", "say 1"):
            for _ in range(2):
                with self.assertRaises(errors.BadText) as caught:
                    texts.read(text)
                self.assertEqual(caught.exception.row, 0)
                caught.exception.row = 5

    def test_the_fields_of_errors_are_new(self):
        world = worlds.World({"one": shelf({"a": plain(say("none"))})})
        for _ in range(2):
            with self.assertRaises(errors.Fell) as caught:
                world.load(("a",))
            self.assertEqual((caught.exception.word, caught.exception.path), ("name", ("a",)))
            caught.exception.path = None
        for _ in range(2):
            with self.assertRaises(errors.BadRows) as caught:
                texts.written((let("x"), None))
            self.assertEqual(caught.exception.at, 1)
            caught.exception.at = None


class AnyKind(unittest.TestCase):
    """An error that is documented is raised whatever the kind of the argument."""

    ODD = (None, True, False, 0, -1, "", "x", "m", b"m", (), [], {}, ("m", 1), ["m"], {"m": 1}, {1}, frozenset("m"), object(), range(3), ((("m",),),))

    def test_shelves(self):
        for odd in self.ODD:
            for function, named, _ in QUERIES:
                if "shelf" in named:
                    self.assertRaises(errors.BadShelf, function, **{**named, "shelf": odd})

    def test_paths(self):
        for odd in self.ODD:
            for function in (meanings.meaning, moving.moved, leading.relocated, graph.uses, graph.late_uses):
                named = [each for query, each, _ in QUERIES if query == function][0]
                self.assertRaises(errors.BadPath, function, **{**named, "path": odd})
                if "other" in named:
                    self.assertRaises(errors.BadPath, function, **{**named, "other": odd})

    def test_names_and_numbers(self):
        for odd in self.ODD:
            if odd not in ("x", "m"):
                self.assertRaises(errors.BadName, moving.moved, given(), M, odd, O)
                self.assertRaises(errors.BadName, meanings.meaning, given(), M, odd)
            if isinstance(odd, bool) or odd != 0:
                self.assertRaises(errors.BadNumber, moving.moved, given(), M, "x", O, most=odd)
                self.assertRaises(errors.BadNumber, leading.relocated, given(), N, ("q",), most=odd)
                self.assertRaises(errors.BadNumber, entries.entries, given(), most=odd)

    def test_rows_and_texts(self):
        for odd in self.ODD:
            if odd != ():
                for function in (scopes.bound, scopes.reached, texts.written):
                    self.assertRaises(errors.BadRows, function, odd)
            if odd != "":
                self.assertRaises(errors.BadText, texts.read, odd)

    def test_a_call_that_is_refused_changes_nothing(self):
        kept = given()
        for refused in (
            lambda: moving.moved(kept, M, "x", M), lambda: moving.moved(kept, M, 5, O), lambda: moving.moved(kept, M, "x", O, most=-1),
            lambda: leading.relocated(kept, M, M), lambda: leading.relocated(kept, ("none",), M), lambda: graph.uses(kept, ("none",)),
            lambda: meanings.meaning(kept, M, ""), lambda: kept.found([]),
        ):
            self.assertRaises(errors.ModuleError, refused)
            self.assertEqual(kept, given())


if __name__ == "__main__":
    unittest.main()

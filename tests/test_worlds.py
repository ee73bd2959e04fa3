"""The interface of worlds: errors in their order, queries, values, the log and `do`, and what point 1 says of them."""

import unittest

from modulehall.errors import (
    BadDeed, BadEdition, BadName, BadNumber, BadPath, BadPlace, BadRows, BadShelf, BadSort, Fell, ModuleError, NoModule,
)
from modulehall.shelves import Shelf
from modulehall.worlds import MOST, World
from tests.kit import call, dot, fell, let, loaded, name, package, plain, say, shelf, take, tell, use, world

EMPTY = Shelf({"home": {}})
BAD_PATHS = (None, True, 1, "a", b"a", (), [], ["a"], {}, (None,), ("",), ("A",), ("a", 1), ([],), ("a",) * 5, object(), set())
BAD_EDITIONS = (True, False, 0, 1, "", "three", "One", b"one", ("one",), ["one"], {}, object(), set())
BAD_MOST = (None, True, False, -1, 2001, 10 ** 30, "5", b"5", (), [500], {}, object())


def two_editions():
    return World({"one": shelf({"a": plain(let("x"))}), "two": shelf({"a": plain(let("x"))})})


class Building(unittest.TestCase):
    def test_most_is_500(self):
        self.assertEqual(MOST, 500)
        rows = tuple(("when", ("num", 1), (tell(1),) * 19, ()) for _ in range(2))
        modules = {"m" + x: plain(*rows) for x in "abcdefghijklm"}
        modules["m"] = plain(*[use("m" + x, "x") for x in "abcdefghijkl"], ("when", ("num", 1), (tell(1),) * 7, ()))
        hall = loaded(modules, "m")
        self.assertEqual(len(hall.said()), 12 * 38 + 7)
        modules["m"] = plain(*[use("m" + x, "x") for x in "abcdefghijkl"], ("when", ("num", 1), (tell(1),) * 8, ()))
        self.assertEqual(fell(self, world(modules).load, ("m",)), ("spent", "m"))

    def test_one_to_three_editions_in_order(self):
        for names in (("a",), ("b", "a"), ("c", "a", "b")):
            self.assertEqual(World({x: EMPTY for x in names}).editions(), list(names))
        self.assertEqual(World(shelves={"a": EMPTY}, most=0).editions(), ["a"])

    def test_bad_shelves(self):
        for bad in (
            None, True, 0, "a", [], (), {}, EMPTY, [("a", EMPTY)], {"a": None}, {"a": {}}, {"a": {"home": {}}}, {"A": EMPTY},
            {"": EMPTY}, {"abcdefghi": EMPTY}, {None: EMPTY}, {1: EMPTY}, {("a",): EMPTY}, {"a": EMPTY, "b": "b"},
            {x: EMPTY for x in "abcd"}, object(),
        ):
            with self.subTest(bad=bad):
                self.assertRaises(BadShelf, World, bad)
                self.assertRaises(BadShelf, World, bad, most=None)

    def test_bad_most(self):
        for bad in BAD_MOST:
            with self.subTest(bad=bad), self.assertRaises(BadNumber):
                World({"a": EMPTY}, most=bad)
        for good in (0, 1, 500, 2000):
            World({"a": EMPTY}, most=good)

    def test_most_must_be_passed_by_name(self):
        self.assertRaises(TypeError, World, {"a": EMPTY}, 500)

    def test_the_shelves_are_copied(self):
        given = {"one": shelf({"a": plain(tell(1)), "b": plain()})}
        same = shelf({"a": plain(tell(1)), "b": plain()})
        hall = World(given)
        hall.put("home", ("a",), "plain", ())
        hall.cut("home", ("b",))
        self.assertEqual(given, {"one": same})
        given["two"] = EMPTY
        del given["one"]
        self.assertEqual(hall.editions(), ["one"])
        hall.load(("a",))
        self.assertEqual(hall.said(), [])

    def test_each_method_stands_in_the_class_itself(self):
        for method in "load again forget put cut do editions table names value said log".split():
            self.assertIn(method, vars(World))


class Commands(unittest.TestCase):
    def test_they_return_none(self):
        hall = world({"a": plain()})
        results = [hall.load(path=("a",), edition="one"), hall.again(path=("a",), edition=None), hall.forget()]
        results += [hall.put(place="home", path=("b",), sort="wide", rows=(), edition="one")]
        results += [hall.cut(place="home", path=("b",), edition="one"), hall.do(row=("forget",))]
        self.assertEqual(results, [None] * 6)

    def test_editions_must_be_passed_by_name(self):
        hall = world({"a": plain()})
        for call_it in (
            lambda: hall.load(("a",), "one"), lambda: hall.again(("a",), "one"),
            lambda: hall.put("home", ("a",), "plain", (), "one"),
            lambda: hall.cut("home", ("a",), "one"), lambda: hall.table("one"), lambda: hall.names(("a",), "one"),
            lambda: hall.value(("a",), "x", "one"),
        ):
            self.assertRaises(TypeError, call_it)

    def test_editions(self):
        for bad in BAD_EDITIONS:
            hall = two_editions()
            with self.subTest(bad=bad):
                self.assertRaises(BadEdition, hall.load, None, edition=bad)
                self.assertRaises(BadEdition, hall.again, None, edition=bad)
                self.assertRaises(BadEdition, hall.put, None, None, None, None, edition=bad)
                self.assertRaises(BadEdition, hall.cut, None, None, edition=bad)
                self.assertRaises(BadEdition, hall.table, edition=bad)
                self.assertRaises(BadEdition, hall.names, None, edition=bad)
                self.assertRaises(BadEdition, hall.value, None, None, edition=bad)
                self.assertRaises(BadEdition, hall.do, ("load", None, bad))

    def test_paths(self):
        for bad in BAD_PATHS:
            hall = two_editions()
            with self.subTest(bad=bad):
                self.assertRaises(BadPath, hall.load, bad)
                self.assertRaises(BadPath, hall.again, bad, edition="two")
                self.assertRaises(BadPath, hall.put, "home", bad, None, None)
                self.assertRaises(BadPath, hall.cut, "home", bad)
                self.assertRaises(BadPath, hall.names, bad)
                self.assertRaises(BadPath, hall.value, bad, None)

    def test_places(self):
        for bad in (None, True, 0, "", "Home", "away", b"home", ("home",), ["home"], {}, object(), set()):
            hall = two_editions()
            with self.subTest(bad=bad):
                self.assertRaises(BadPlace, hall.put, bad, None, None, None)
                self.assertRaises(BadPlace, hall.cut, bad, None, edition="two")

    def test_places_are_those_of_the_edition(self):
        hall = World({"one": shelf({}), "two": shelf({}, away={})})
        hall.put("away", ("a",), "plain", (), edition="two")
        self.assertRaises(BadPlace, hall.put, "away", ("a",), "plain", ())
        self.assertRaises(BadPlace, hall.cut, "away", ("a",), edition="one")

    def test_sorts(self):
        hall = two_editions()
        for bad in (None, True, 0, "", "Plain", "box", b"plain", ("plain",), ["plain"], {}, object()):
            self.assertRaises(BadSort, hall.put, "home", ("a",), bad, None)

    def test_rows(self):
        hall = two_editions()
        for bad, at in (
            (None, None), ([], None), ([let("x")], None), ("", None), ((let("x"),) * 41, None), ((None,), 0), (let("x"), 0),
            ((let("x"), ("give", ("num", 1))), 1), ((("show", ("a",)), let("x"), ("hide", ("a",))), 2),
        ):
            with self.subTest(bad=bad), self.assertRaises(BadRows) as caught:
                hall.put("home", ("a",), "plain", bad)
            self.assertEqual(caught.exception.at, at)

    def test_rows_without_end_are_refused_and_logged(self):
        row = let("x")
        for _ in range(5000):
            row = ("try", (row,), ())
        hall = two_editions()
        with self.assertRaises(BadRows) as caught:
            hall.put("home", ("a",), "plain", (row,))
        self.assertEqual((caught.exception.at, len(hall.log())), (0, 1))
        self.assertEqual(hall.log()[0][4][0][0], "try")

    def test_cut_of_a_module_that_the_place_does_not_have(self):
        hall = World({"one": shelf({"a": plain()}, last={"b": plain()}), "two": shelf({"c": plain()})})
        self.assertRaises(NoModule, hall.cut, "last", ("a",))
        self.assertRaises(NoModule, hall.cut, "home", ("b",))
        self.assertRaises(NoModule, hall.cut, "home", ("c",))
        hall.cut("home", ("c",), edition="two")
        self.assertRaises(NoModule, hall.cut, "home", ("c",), edition="two")

    def test_put_and_cut(self):
        hall = world({"a": plain(tell(1))}, last={"b": plain()})
        hall.put("home", ("a",), "package", (tell(2),))
        hall.put("home", ("a", "x"), "plain", (tell(3),))
        hall.cut("last", ("b",))
        hall.load(("a", "x"))
        self.assertEqual(hall.said(), [("one", ("a",), 2), ("one", ("a", "x"), 3)])
        self.assertEqual(fell(self, hall.load, ("b",)), ("module", ""))

    def test_a_module_may_be_put_without_its_parent_and_without_end_of_names(self):
        hall = world({})
        hall.put("home", ("a", "b", "c", "d"), "wide", ())
        self.assertEqual(fell(self, hall.load, ("a", "b", "c", "d")), ("module", ""))

    def test_a_refused_call_changes_nothing(self):
        hall = loaded({"a": plain(tell(1), let("x")), "b": plain()}, "a")
        before = (hall.table(), hall.names(("a",)), hall.said(), hall.editions())
        for refused in (
            lambda: hall.load("a"), lambda: hall.again(None), lambda: hall.put("home", ("b",), "plain", None),
            lambda: hall.put("home", ("b",), "none", ()), lambda: hall.cut("home", ("c",)), lambda: hall.do(("b",)),
            lambda: hall.put("home", ("b",), "plain", (), edition="two"), lambda: hall.load(("b",), edition="two"),
        ):
            self.assertRaises(ModuleError, refused)
        self.assertEqual((hall.table(), hall.names(("a",)), hall.said(), hall.editions()), before)
        hall.load(("b",))
        self.assertEqual(hall.table(), [("a",), ("b",)])

    def test_a_failure_is_fell(self):
        with self.assertRaises(Fell) as caught:
            world({"a": package(), "a.b": plain(say("none"))}).load(("a", "b"))
        self.assertEqual((caught.exception.word, caught.exception.path), ("name", ("a", "b")))


class Queries(unittest.TestCase):
    def test_table(self):
        hall = loaded({"b": plain(use("a", "a")), "a": plain(), "c": plain()}, "c", "b")
        self.assertEqual(hall.table(edition="one"), [("c",), ("b",), ("a",)])

    def test_names_and_value(self):
        hall = loaded({"p": package(let("z", 4), let("a", 5)), "p.x": plain(let("n", 6))}, "p.x")
        self.assertEqual(hall.names(path=("p",), edition="one"), ["z", "a", "x"])
        self.assertEqual(hall.value(path=("p", "x"), name="n", edition="one"), 6)

    def test_modules_that_are_not_in_the_table(self):
        hall = loaded({"a": plain(), "b": plain()}, "a")
        for path in (("b",), ("c",), ("a", "b")):
            self.assertRaises(NoModule, hall.names, path)
            self.assertRaises(NoModule, hall.value, path, None)

    def test_names_that_a_module_does_not_have(self):
        hall = loaded({"a": plain(let("x"), let("y"), ("drop", "y")), "x": plain()}, "a")
        for bad in (None, True, 1, "", "y", "X", "xx", b"x", ("x",), ["x"], {}, object(), set()):
            with self.subTest(bad=bad):
                self.assertRaises(BadName, hall.value, ("a",), bad)

    def test_hidden_names_are_told(self):
        hall = loaded({"a": plain(let("x", 4), ("hide", ("x",)))}, "a")
        self.assertEqual((hall.names(("a",)), hall.value(("a",), "x")), (["x"], 4))

    def test_queries_load_nothing_and_are_not_logged(self):
        hall = loaded({"a": plain(("lazy", ("b",), "x")), "b": plain(tell(1))}, "a")
        self.assertEqual(hall.value(("a",), "x"), ("lazy", ("b",)))
        hall.names(("a",)), hall.table(), hall.said(), hall.editions(), hall.log()
        self.assertEqual((hall.table(), hall.said(), hall.log()), ([("a",)], [], [("load", ("a",), None)]))

    def test_values(self):
        rows = (
            let("n", -3), ("def", "f", (), ()), ("box", "b", (("def", "g", (), ()),)),
            ("def", "h", (), (("def", "i", (), ()), (
                "give", name("i")))), ("let", "j", call("h")), use("o.p", "m"), ("lazy", ("o", "p"), "l"), ("let", "k",
                name("f")),
            ("let", "g", dot("b", "g")), take("o.p", "f"),
        )
        hall = loaded({"m": plain(*rows), "o": package(), "o.p": plain(("def", "f", (), ()))}, "m")
        self.assertEqual({x: hall.value(("m",), x) for x in hall.names(("m",))}, {
            "n": -3, "f": ("def", ("o", "p"), "f", 5), "b": ("box", ("m",), "b", 1), "h": ("def", ("m",), "h", 3),
            "j": ("def", ("m",), "i", 4), "m": ("module", ("o", "p")), "l": ("lazy", ("o", "p")), "k": ("def", ("m",), "f", 0),
            "g": ("def", ("m",), "g", 2),
        })

    def test_values_that_were_said(self):
        rows = (("def", "f", (), ()), say("f"), ("box", "b", ()), say("b"), use("o", "o"), say("o"), tell(5), ("let", "g", name("f")), say("g"))
        hall = loaded({"m": plain(*rows), "o": plain(("lazy", ("m",), "x"), say("x"))}, "m")
        self.assertEqual(hall.said(), [
            ("one", ("m",), ("def", ("m",), "f", 0)), ("one", ("m",), ("box", ("m",), "b", 1)),
            ("one", ("o",), ("module", ("m",))),
            ("one", ("m",), ("module", ("o",))), ("one", ("m",), 5), ("one", ("m",), ("def", ("m",), "f", 0)),
        ])

    def test_a_def_of_another_module_says_with_its_own_path(self):
        hall = loaded({"m": plain(take("o", "f"), ("say", call("f"))), "o": plain(("def", "f", (), (say("f"),)))}, "m")
        self.assertEqual(hall.said(), [("one", ("o",), ("def", ("o",), "f", 0)), ("one", ("m",), 0)])

    def test_the_counts_of_defs_and_boxes(self):
        f = ("def", "f", (), ())
        failed = ("try", (("box", "b", (f, say("none"), f)),), ())
        hall = loaded({"m": plain(failed, ("box", "c", (f, ("box", "d", ()))), f, f), "bad": plain(f, say("none"))}, "m")
        self.assertEqual(hall.value(("m",), "c"), ("box", ("m",), "c", 2))
        self.assertEqual(hall.value(("m",), "f"), ("def", ("m",), "f", 6))
        self.assertEqual(fell(self, hall.load, ("bad",)), ("name", "bad"))
        hall.again(("m",))
        self.assertEqual(hall.value(("m",), "c"), ("box", ("m",), "c", 10))

    def test_the_numbers_of_a_box_and_of_what_is_in_it(self):
        inner = ("box", "b", (("def", "f", (), ()), ("box", "c", (("def", "g", (), ()), say("g"))), say("f"), say("c")))
        hall = loaded({"m": plain(inner, say("b"))}, "m")
        self.assertEqual([value[2:] for _, _, value in hall.said()], [("g", 3), ("f", 1), ("c", 2), ("b", 0)])

    def test_a_def_counts_each_time_its_row_is_run_and_not_when_it_is_called(self):
        rows = (("def", "f", (), (("def", "g", (), ()), ("give", name("g")))), ("say", call("f")), ("say", call("f")))
        hall = loaded({"m": plain(*rows)}, "m")
        self.assertEqual([value[3] for _, _, value in hall.said()], [1, 2])

    def test_returned_values_are_new(self):
        hall = loaded({"a": plain(let("x"), say("x"))}, "a")
        for query in (hall.editions, hall.table, hall.said, hall.log, lambda: hall.names(("a",))):
            before = query()
            query().append("more")
            query().clear()
            self.assertEqual(query(), before)
            self.assertIsInstance(before, list)
        self.assertIsInstance(hall.said()[0], tuple)
        self.assertIsInstance(hall.log()[0], tuple)


class Log(unittest.TestCase):
    def test_every_command_with_all_arguments(self):
        hall = two_editions()
        rows = (let("x"),)
        hall.load(("a",))
        hall.load(("a",), edition="two")
        hall.again(("a",))
        hall.again(("a",), edition="one")
        hall.forget()
        hall.put("home", ("b",), "wide", rows)
        hall.put("home", ("b",), "package", (), edition="two")
        hall.cut("home", ("b",))
        hall.cut("home", ("b",), edition="two")
        self.assertEqual(hall.log(), [
            ("load", ("a",), None), ("load", ("a",), "two"), ("again", ("a",), None), ("again", ("a",), "one"), ("forget",),
            ("put", "home", ("b",), "wide", rows, None), ("put", "home", ("b",), "package", (), "two"),
            ("cut", "home", ("b",), None), ("cut", "home", ("b",), "two"),
        ])

    def test_refused_and_failed_commands(self):
        hall = two_editions()
        for command, given in (
            (lambda: hall.load(("none",)), ("load", ("none",), None)),
            (lambda: hall.load("a", edition="two"), ("load", "a", "two")),
            (lambda: hall.load(("a",), edition="three"), ("load", ("a",), "three")),
            (lambda: hall.again(["a"]), ("again", ["a"], None)),
            (lambda: hall.again(("none",), edition=5), ("again", ("none",), 5)),
            (lambda: hall.put("none", 1, 2, 3), ("put", "none", 1, 2, 3, None)),
            (lambda: hall.put("home", ("a",), "plain", [let("x")], edition="one"), ("put", "home", ("a",), "plain", [let("x")], "one")),
            (lambda: hall.put({"a": [1]}, [], {}, ({},), edition=[2]), ("put", {"a": [1]}, [], {}, ({},), [2])),
            (lambda: hall.cut("home", ("none",), edition="two"), ("cut", "home", ("none",), "two")),
            (lambda: hall.cut(True, None), ("cut", True, None, None)),
        ):
            with self.subTest(given=given):
                self.assertRaises(ModuleError, command)
                self.assertEqual(hall.log()[-1], given)
        self.assertEqual(len(hall.log()), 10)

    def test_arguments_are_not_kept_and_not_given_out(self):
        hall = two_editions()
        path, rows, edition = ["a"], ([1], {"x": [2]}), {"one": []}
        self.assertRaises(BadEdition, hall.put, "home", path, "plain", rows, edition=edition)
        path.append("b")
        rows[0].append(2)
        rows[1]["x"].append(3)
        edition["one"].append(4)
        expected = [("put", "home", ["a"], "plain", ([1], {"x": [2]}), {"one": []})]
        told = hall.log()
        self.assertEqual(told, expected)
        told[0][2].append("c")
        told[0][4][1]["x"].clear()
        told[0][5]["two"] = 1
        self.assertEqual(hall.log(), expected)

    def test_arguments_are_not_changed(self):
        path, rows = ["a", []], [let("x"), {"a": [()]}]
        hall = two_editions()
        self.assertRaises(BadPath, hall.put, "home", path, "plain", rows)
        hall.log()
        self.assertEqual((path, rows), (["a", []], [let("x"), {"a": [()]}]))

    def test_the_log_keeps_the_order_of_items(self):
        hall = two_editions()
        odd = (1, (2, [3, (4, 5), {"b": 6, "a": [7, 8]}], ()), [], {}, "9")
        self.assertRaises(BadPath, hall.load, odd)
        self.assertEqual(hall.log(), [("load", odd, None)])
        self.assertEqual(list(hall.log()[0][1][1][1][2]), ["b", "a"])


class Do(unittest.TestCase):
    def test_each_row_of_a_log(self):
        rows = (
            ("load", ("a",), None), ("again", ("a",), "one"), ("put", "home", ("b",), "plain", (tell(2),), None), ("forget",),
            ("load", ("b",), "one"), ("cut", "home", ("b",), None), ("cut", "home", ("a",), "two"),
            ("put", "home", ("c",), "wide", (), "two"),
            ("load", ("c",), "two"),
        )
        hall = two_editions()
        for row in rows:
            self.assertIsNone(hall.do(row))
        self.assertEqual(hall.log(), list(rows))
        self.assertEqual((hall.table(), hall.table(edition="two"), hall.said()), ([("a",), ("b",)], [("c",)], [("one", ("b",), 2)]))

    def test_a_log_replayed_in_a_new_world_leads_to_the_same(self):
        modules = {"a": package(("def", "f", (), ()), say("f")), "a.b": plain(say("none")), "c": plain(("lazy", ("a",), "l"))}
        first = world(modules)
        for command in (
            lambda: first.load(("a", "b")), lambda: first.load(("c",)), lambda: first.again(("a",)), lambda: first.load("a"),
            lambda: first.cut("home", ("x",)), lambda: first.put("home", ("d",), "plain", (tell(1),)),
            lambda: first.load(("d",)),
            first.forget, lambda: first.load(("d",)), lambda: first.put("home", ("c",), "plain", [], edition="x"),
        ):
            try:
                command()
            except ModuleError:
                continue
        second = world(modules)
        for row in first.log():
            try:
                second.do(row)
            except ModuleError:
                continue
        for query in ("log", "said", "table"):
            self.assertEqual(getattr(first, query)(), getattr(second, query)())
        self.assertEqual(len(first.log()), 10)

    def test_what_is_no_row_of_a_log(self):
        hall = two_editions()
        for bad in (
            None, True, 0, "load", b"load", (), [], {}, ("load",), ("load", ("a",)), ("load", ("a",), None, None),
            ["load", ("a",), None],
            ("again", ("a",)), ("forget", None), ("put", "home", ("a",), "plain", ()),
            ("put", "home", ("a",), "plain", (), None, None),
            ("cut", "home", ("a",)), ("cut", "home", ("a",), None, None), ("Load", ("a",), None), ("do", ("forget",)),
            ("table", None, None),
            (None, ("a",), None), (["load"], ("a",), None), ({}, ("a",), None), (("load",), ("a",), None),
            (b"load", ("a",), None),
            (True, ("a",), None), ("said",), ("log",), object(),
        ):
            with self.subTest(bad=bad):
                self.assertRaises(BadDeed, hall.do, bad)
        self.assertEqual(hall.log(), [])

    def test_the_errors_of_the_command_and_its_place_in_the_log(self):
        hall = two_editions()
        for row, error in (
            (("load", None, "three"), BadEdition), (("load", None, None), BadPath), (("load", ("none",), None), Fell),
            (("again", [], "two"), BadPath), (("again", ("a",), None), Fell), (("put", 1, 2, 3, 4, 5), BadEdition),
            (("put", 1, 2, 3, 4, None), BadPlace), (("put", "home", 2, 3, 4, None), BadPath),
            (("put", "home", ("a",), 3, 4, None), BadSort),
            (("put", "home", ("a",), "wide", 4, None), BadRows), (("cut", 1, 2, 3), BadEdition),
            (("cut", 1, 2, None), BadPlace),
            (("cut", "home", 2, "one"), BadPath), (("cut", "home", ("z",), "one"), NoModule),
        ):
            with self.subTest(row=row):
                self.assertRaises(error, hall.do, row)
                self.assertEqual(hall.log()[-1], row)

    def test_the_row_is_not_kept(self):
        hall = two_editions()
        path = ["a"]
        self.assertRaises(BadPath, hall.do, ("load", path, None))
        path.append("b")
        self.assertEqual(hall.log(), [("load", ["a"], None)])


if __name__ == "__main__":
    unittest.main()

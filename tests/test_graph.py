"""Points 19 and 20: uses, late uses, rings and the load order."""

import random
import unittest

from modulehall.entries import entries
from modulehall.errors import BadPath, BadShelf, Fell, NoModule
from modulehall.graph import late_uses, rings, turn, uses
from modulehall.moving import Moved
from modulehall.shelves import Shelf
from modulehall.worlds import World
from tests.kit import ONE, let, package, path, plain, say, shelf, take, take_all, use, wide

# Modules that rows can load.
TREE = {
    "a": package(), "a.b": package(let("x")), "a.b.c": plain(let("y")), "b": plain(), "c": wide(), "c.d": plain(),
    "e": package(("show", ("f", "g", "z"))), "e.f": plain(), "e.h": plain(),
}


def dotted(paths):
    return [".".join(each) for each in paths]


def used(*rows, where="m", sort="plain", **places):
    """The dotted paths that a module of these rows uses, and those that it uses late."""
    given = shelf({**TREE, where: (sort, rows)}, **places)
    return dotted(uses(given, path(where))), dotted(late_uses(given, path(where)))


# Rows, and the paths that they may load.
LOADING = (
    (use("a"), ["a"]), (use("a", "k"), ["a"]), (use("a.b.c"), ["a", "a.b", "a.b.c"]), (use("a.b.c", "k"), ["a", "a.b", "a.b.c"]),
    (use("none"), []), (use("a.none.c"), ["a"]), (use("a.b.c.d", "k"), ["a", "a.b", "a.b.c"]), (use("b.c.d"), ["b"]),
    (use("c.d"), ["c", "c.d"]), (("again", ("b",)), ["b"]), (("again", ("a", "b")), ["a", "a.b"]), (("again", ("none",)), []),
    (take("b", "x"), ["b"]), (take("a", "x"), ["a"]), (take("a", "b"), ["a", "a.b"]), (take("a", "x", "b", "y"), ["a", "a.b"]),
    (("from", 0, ("a",), (("b", "x"), ("x", "b"))), ["a", "a.b"]), (("from", 0, ("a",), (("x", "b"),)), ["a"]),
    (take("a.b", "c"), ["a", "a.b", "a.b.c"]), (take("a.b.c", "d"), ["a", "a.b", "a.b.c"]), (take("none", "a"), []),
    (take("a.none", "b"), ["a"]), (take("a", "b", dots=1), ["a", "a.b"]), (take("", "b", dots=1), []), (take("b", "x", dots=2), []),
    (take("c", "d", dots=1), ["c", "c.d"]), (take("e", "f", "h"), ["e", "e.f", "e.h"]),
)
LOADING_ALL = (
    (take_all("a"), ["a"]), (take_all("b"), ["b"]), (take_all("e"), ["e", "e.f"]), (take_all("e", dots=1), ["e", "e.f"]),
    (take_all("none"), []), (take_all("e", dots=2), []), (take_all("a.b"), ["a", "a.b"]),
)
LOADING_NOTHING = (
    let("a"), say("a"), ("drop", "a"), ("set", ("name", "a"), "b", ONE), ("far", "two", ("b",), "x", "y"), ("def", "a", ("b",), ()),
    ("box", "a", ()), ("when", ONE, (), ()), ("try", (), ()), ("say", ("dot", ("name", "a"), "b")),
)


class Uses(unittest.TestCase):
    def test_each_kind_of_row(self):
        for row, expected in LOADING + LOADING_ALL:
            with self.subTest(row=row):
                self.assertEqual(used(row), (expected, []))
        for row in LOADING_NOTHING + (("show", ("a",)), ("hide", ("a",))):
            self.assertEqual(used(row), ([], []))

    def test_in_boxes_whens_and_tries(self):
        for row, expected in LOADING:
            for around in (
                ("when", ONE, (row,), ()), ("when", ONE, (), (row,)), ("try", (row,), ()), ("try", (), (row,)), ("box", "k", (row,)),
                ("box", "k", (("when", ONE, (), (("box", "l", (let("z"), row)),)),)),
            ):
                self.assertEqual(used(around), (expected, []))
        for row, expected in LOADING_ALL:
            self.assertEqual(used(("try", (), (("when", ONE, (row,), ()),))), (expected, []))

    def test_in_defs(self):
        for row, expected in LOADING:
            for around in (
                ("def", "f", (), (row,)), ("def", "f", (), (("when", ONE, (), (row,)),)), ("def", "f", (), (("def", "g", (), (row,)),)),
                ("box", "k", (("def", "f", (), (row,)),)), ("def", "f", (), (("box", "k", (("def", "g", (), (row,)),)),)),
                ("try", (), (("box", "k", (("def", "g", (), (row,)),)),)),
            ):
                self.assertEqual(used(around), ([], expected))

    def test_lazy_names(self):
        row = ("lazy", ("a", "b", "c"), "k")
        for around in (
            row, ("when", ONE, (), (row,)), ("try", (row,), ()), ("box", "k", (row,)), ("def", "f", (), (row,)),
            ("def", "f", (), (("box", "k", (("try", (row,), ()),)),)),
        ):
            self.assertEqual(used(around), ([], ["a", "a.b", "a.b.c"]))
        self.assertEqual(used(("lazy", ("none",), "k"), ("lazy", ("b", "x"), "k")), ([], ["b"]))

    def test_several_rows_in_order_and_each_path_once(self):
        rows = use("c.d"), take("a", "b"), use("a"), use("b"), ("again", ("a",))
        self.assertEqual(used(*rows)[0], ["a", "a.b", "b", "c", "c.d"])
        late = ("def", "f", (), rows), ("lazy", ("e",), "k"), ("lazy", ("a",), "k")
        self.assertEqual(used(*late), ([], ["a", "a.b", "b", "c", "c.d", "e"]))
        self.assertEqual(used(use("b"), ("def", "f", (), (use("b"),))), (["b"], ["b"]))

    def test_paths_above_the_module_itself(self):
        self.assertEqual(used(where="a.b.m"), (["a", "a.b"], []))
        self.assertEqual(used(("def", "f", (), (use("b"),)), where="a.b.m"), (["a", "a.b"], ["b"]))
        self.assertEqual(used(("def", "f", (), (use("a.b.c"),)), where="a.b.m"), (["a", "a.b"], ["a", "a.b", "a.b.c"]))

    def test_the_module_itself(self):
        for row in (use("m"), use("m", "k"), ("again", ("m",)), take("m", "x"), take("m", "x", dots=1), take_all("m")):
            self.assertEqual(used(row), ([], []))
        for row in (use("m"), ("again", ("m",)), take("m", "x")):
            self.assertEqual(used(("def", "f", (), (row,)), ("lazy", ("m",), "k")), ([], []))
        self.assertEqual(used(take("", "b", "c", dots=1), where="a", sort="package")[0], ["a.b"])
        self.assertEqual(used(use("a.b.c"), where="a.b", sort="package")[0], ["a", "a.b.c"])

    def test_dots(self):
        for dots, below, sort, expected in (
            (1, "b", "plain", ["a", "a.b"]), (1, "", "plain", ["a"]), (1, "x", "package", ["a"]), (2, "b", "package", ["a", "a.b"]),
            (2, "b", "plain", ["a", "b"]), (3, "b", "plain", ["a"]), (3, "b", "wide", ["a", "b"]), (2, "", "wide", ["a"]),
        ):
            with self.subTest(dots=dots, below=below, sort=sort):
                self.assertEqual(used(take(below, "z", dots=dots), where="a.m", sort=sort)[0], expected)
                self.assertEqual(used(take_all(below, dots=dots), where="a.m", sort=sort)[0], expected)

    def test_names_that_are_modules_below_with_dots(self):
        self.assertEqual(used(take("", "b", "c", dots=1), where="a.m")[0], ["a", "a.b"])
        self.assertEqual(used(take("", "b", dots=2), where="a.b.m")[0], ["a", "a.b"])

    def test_a_name_that_is_taken_is_used_if_there_is_a_module_also_if_it_is_bound(self):
        given = shelf({"a": package(let("b")), "a.b": plain(), "m": plain(take("a", "b"))})
        self.assertEqual(uses(given, ("m",)), [("a",), ("a", "b")])

    def test_a_show_of_the_module_itself(self):
        given = shelf({"m": package(("show", ("x", "y")), take_all("m")), "m.x": plain()})
        self.assertEqual(uses(given, ("m",)), [("m", "x")])

    def test_a_from_all_of_a_module_that_hides(self):
        given = shelf({"m": plain(take_all("a")), "a": package(("hide", ("x",))), "a.x": plain(), "a.y": plain()})
        self.assertEqual(uses(given, ("m",)), [("a",)])

    def test_places(self):
        given = shelf({"m": plain(use("a.b"), use("c.d"))}, last={"a": package(), "c": wide()}, mid={"a.b": plain(), "c.d": plain()})
        self.assertEqual(uses(given, ("m",)), [("a",), ("c",), ("c", "d")])

    def test_the_rows_are_those_of_the_place_where_the_module_is_found(self):
        given = shelf({"m": plain(use("a")), "a": plain()}, last={"m": plain(use("b")), "b": plain()})
        self.assertEqual(uses(given, ("m",)), [("a",)])


class Rings(unittest.TestCase):
    def rings(self, modules, **places):
        return [dotted(each) for each in rings(shelf(modules, **places))]

    def test_none(self):
        self.assertEqual(rings(shelf({})), [])
        self.assertEqual(self.rings({"a": plain(use("b", "b"), use("c", "c")), "b": plain(use("c", "c")), "c": plain()}), [])

    def test_a_module_alone_is_none(self):
        self.assertEqual(self.rings({"a": plain(use("a", "a")), "b": plain(take("b", "x"))}), [])

    def test_two(self):
        self.assertEqual(self.rings({"b": plain(use("a", "a")), "a": plain(use("b", "b")), "c": plain(use("a", "a"))}), [["a", "b"]])

    def test_more(self):
        modules = {"c": plain(use("a", "a")), "a": plain(use("d", "b")), "d": plain(use("b", "b")), "b": plain(use("c", "c"), use("e", "e")), "e": plain()}
        self.assertEqual(self.rings(modules), [["a", "b", "c", "d"]])

    def test_two_that_meet_are_one(self):
        modules = {"a": plain(use("b", "b")), "b": plain(use("a", "a"), use("c", "c")), "c": plain(use("b", "b"))}
        self.assertEqual(self.rings(modules), [["a", "b", "c"]])

    def test_several(self):
        modules = {
            "z": plain(use("b", "b")), "b": plain(use("z", "z"), use("c", "c")), "c": plain(use("d", "d")), "d": plain(use("e", "e")),
            "e": plain(use("c", "c")), "a": plain(use("z", "z")),
        }
        self.assertEqual(self.rings(modules), [["b", "z"], ["c", "d", "e"]])

    def test_a_package_and_what_is_below_it(self):
        modules = {"a": package(use("a.b", "b")), "a.b": plain(), "a.c": plain()}
        self.assertEqual(self.rings(modules), [["a", "a.b"]])
        self.assertEqual(self.rings({"a": package(), "a.b": plain(use("a", "a"))}), [])
        self.assertEqual(self.rings({"a": package(take("", "b", dots=1)), "a.b": plain(), "a.b.c": plain()}), [["a", "a.b"]])

    def test_late_uses_make_none(self):
        for row in (("lazy", ("b",), "b"), ("def", "f", (), (use("b", "b"),))):
            self.assertEqual(self.rings({"a": plain(row), "b": plain(use("a", "a"))}), [])

    def test_each_kind_of_use_makes_one(self):
        for row in (use("b"), ("again", ("b",)), take("b", "x"), take_all("b"), ("box", "k", (use("b"),)), ("try", (), (use("b"),))):
            self.assertEqual(self.rings({"a": plain(row), "b": plain(use("a", "a"))}), [["a", "b"]])


class Turn(unittest.TestCase):
    def turn(self, modules, **places):
        return dotted(turn(shelf(modules, **places)))

    def test_nothing(self):
        self.assertEqual(turn(shelf({})), [])

    def test_without_uses_the_order_is_that_of_the_paths(self):
        self.assertEqual(self.turn({"b": plain(), "a": package(), "aa": plain(), "a.c": plain()}), ["a", "a.c", "aa", "b"])

    def test_uses_come_first(self):
        modules = {"a": plain(use("c", "c")), "b": plain(), "c": plain(use("d", "d")), "d": plain()}
        self.assertEqual(self.turn(modules), ["b", "d", "c", "a"])

    def test_the_first_one_that_can_be_next(self):
        modules = {"a": plain(use("z", "z")), "b": plain(use("a", "a")), "c": plain(), "y": plain(), "z": plain()}
        self.assertEqual(self.turn(modules), ["c", "y", "z", "a", "b"])

    def test_late_uses_do_not_matter(self):
        modules = {"a": plain(("lazy", ("b",), "b"), ("def", "f", (), (use("b", "b"),))), "b": plain()}
        self.assertEqual(self.turn(modules), ["a", "b"])

    def test_the_module_itself_does_not_matter(self):
        self.assertEqual(self.turn({"a": plain(use("a", "a")), "b": plain()}), ["a", "b"])

    def test_a_ring(self):
        modules = {"a": plain(use("b", "b")), "b": plain(use("a", "a")), "c": plain()}
        self.assertEqual(self.turn(modules), ["a", "b", "c"])

    def test_a_ring_that_uses_others(self):
        # Only b uses z, but a waits for it, too.
        modules = {"a": plain(use("b", "b")), "b": plain(use("a", "a"), use("z", "z")), "c": plain(), "z": plain()}
        self.assertEqual(self.turn(modules), ["c", "z", "a", "b"])

    def test_the_rest_of_a_ring(self):
        # When b has had its turn, c can be next, although d, the rest of the ring, is left.
        modules = {"b": plain(use("d", "d")), "d": plain(use("b", "b")), "c": plain(use("b", "b")), "a": plain(use("d", "d"))}
        self.assertEqual(self.turn(modules), ["b", "c", "d", "a"])
        modules = {"b": plain(use("d", "d")), "d": plain(use("b", "b")), "c": plain(), "e": plain(use("b", "b"))}
        self.assertEqual(self.turn(modules), ["b", "c", "d", "e"])

    def test_several_rings(self):
        modules = {
            "a": plain(use("b", "b")), "b": plain(use("a", "a"), use("y", "y")), "x": plain(use("y", "y")), "y": plain(use("x", "x")),
        }
        self.assertEqual(self.turn(modules), ["x", "y", "a", "b"])

    def test_a_package_comes_before_what_is_below_it(self):
        modules = {"a": package(use("z", "z")), "a.b": plain(), "z": plain()}
        self.assertEqual(self.turn(modules), ["z", "a", "a.b"])

    def test_only_what_is_found(self):
        self.assertEqual(self.turn({"b.c": plain(), "d": plain(use("b.c", "c")), "e": plain()}, last={"e": plain(use("z")), "z": plain()}), ["d", "e", "z"])

    def test_many_modules(self):
        names = [x + y for x in "abcdefghij" for y in "abcdefghijklmnopqrst"]
        modules = {y: plain(use(z, "k")) for y, z in zip(names, names[1:])}
        expected = names[::-1]
        self.assertEqual(self.turn({**modules, names[-1]: plain()}), expected)
        ring = shelf({**modules, names[-1]: plain(use(names[0], "k"))})
        self.assertEqual((dotted(turn(ring)), [dotted(each) for each in rings(ring)]), (names, [names]))


class Errors(unittest.TestCase):
    def test_in_their_order(self):
        good = shelf({"a": plain(), "c.d": plain()})
        for bad in (None, True, 0, "", {}, {"home": {}}, [], World({"one": good}), Moved(good), object()):
            for function in (uses, late_uses):
                self.assertRaises(BadShelf, function, bad, None)
            for function in (rings, turn):
                self.assertRaises(BadShelf, function, bad)
        for function in (uses, late_uses):
            for bad in (None, True, 1, "a", (), [], ["a"], {}, ("A",), ("a", ""), ("a",) * 5, ([],), ((),), object(), set()):
                self.assertRaises(BadPath, function, good, bad)
            for bad in (("b",), ("a", "x"), ("c",), ("c", "d")):
                self.assertRaises(NoModule, function, good, bad)

    def test_parameters_by_name(self):
        given = shelf({"a": plain(use("b"), ("lazy", ("b",), "l")), "b": plain()})
        self.assertEqual((uses(path=("a",), shelf=given), late_uses(path=("a",), shelf=given)), ([("b",)], [("b",)]))
        self.assertEqual((rings(shelf=given), turn(shelf=given)), ([], [("b",), ("a",)]))

    def test_results_are_new(self):
        given = shelf({"a": plain(use("b"), ("lazy", ("b",), "l")), "b": plain(use("a"))})
        before = given.places()
        for function in (lambda: uses(given, ("a",)), lambda: late_uses(given, ("a",)), lambda: turn(given), lambda: rings(given), lambda: rings(given)[0]):
            first = function()
            self.assertIsInstance(first, list)
            expected = list(first)
            first.clear()
            self.assertEqual(function(), expected)
        self.assertEqual(given.places(), before)


NAMES = "abcd"
PATHS = (("a",), ("b",), ("c",), ("d",), ("a", "b"), ("a", "c"), ("b", "c"), ("a", "b", "d"))


def slow_rings(used_paths):
    """Rings by the words of point 20: each of a pair is reached from the other."""
    reached = {each: set(used_paths[each]) for each in used_paths}
    for _ in used_paths:
        reached = {each: reached[each].union(*[reached[more] for more in reached[each]]) for each in reached}
    sets = {tuple(sorted(more for more in reached if more in reached[each] and each in reached[more])) for each in reached}
    return sorted(list(each) for each in sets if len(each) > 1)


class Chance(unittest.TestCase):
    def some_row(self, chance):
        where, x = chance.choice(PATHS), chance.choice(NAMES)
        dotted = ".".join(where)
        return chance.choice((
            use(dotted, x), use(dotted), take(dotted, x), take_all(dotted), take("b", x, dots=1), let(x), ("box", "k", (use(dotted, x),)),
            ("show", (x,)),
        ))

    def some_shelf(self, chance):
        places = {"home": {}, "last": {}}
        for each in PATHS:
            rows = []
            for row in [self.some_row(chance) for _ in range(chance.choice((0, 0, 1, 1, 2)))]:
                if row[0] != "show" or row[0] not in [other[0] for other in rows]:
                    rows.append(row)
            if chance.random() < 0.85:
                places[chance.choice(("home", "home", "last"))][each] = (chance.choice(("plain", "package", "wide")), tuple(rows))
        return Shelf(places)

    def check_runs(self, given, order):
        """Fail unless a new world runs only one module at each load, and return whether nothing failed."""
        world = World({"one": given})
        for each in order:
            before = world.table()
            try:
                world.load(each)
            except Fell:
                return False
            self.assertEqual(world.table(), before + [each], given.places())
        return True

    def test_rings_and_the_load_order(self):
        chance = random.Random(20)
        whole, with_rings = 0, 0
        for _ in range(1500):
            given = self.some_shelf(chance)
            used_paths = {each: uses(given, each) for each in given.paths()}
            found = rings(given)
            self.assertEqual(found, slow_rings(used_paths))
            order = turn(given)
            self.assertEqual(sorted(order), given.paths())
            if found:
                with_rings += 1
                continue
            whole += self.check_runs(given, order)
            for at, each in enumerate(order):
                self.assertTrue(set(used_paths[each]) <= set(order[:at]))
                ready = [more for more in given.paths() if more not in order[:at] and set(used_paths[more]) <= set(order[:at])]
                self.assertEqual(ready[0], each)
        self.assertGreater(min(whole, with_rings), 50)

    def test_what_is_loaded_is_used(self):
        chance = random.Random(19)
        for _ in range(600):
            given = self.some_shelf(chance)
            for each, how in entries(given):
                if how[0] == "whole":
                    reached = [each]
                    for more in reached:
                        reached.extend([used for used in uses(given, more) if used not in reached])
                    self.assertTrue(set(how[1]) <= set(reached), given.places())


if __name__ == "__main__":
    unittest.main()

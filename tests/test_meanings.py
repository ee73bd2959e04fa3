"""Point 14: what a name means by the rows alone."""

import unittest

from modulehall.errors import BadName, BadPath, BadShelf, NoModule
from modulehall.meanings import meaning
from modulehall.worlds import World
from tests.kit import ONE, let, name, package, path, plain, say, shelf, take, take_all, use, wide

NONE, MANY, RING = ("none",), ("many",), ("ring",)
A, B, C = ("a",), ("b",), ("c",)

# Rows that bind x in a module a, and what it means then.
BINDING = (
    (let("x"), ("own", A, "x")),
    (("drop", "x"), ("own", A, "x")),
    (("def", "x", (), ()), ("own", A, "x")),
    (("box", "x", (let("x"),)), ("own", A, "x")),
    (("far", "two", B, "y", "x"), ("own", A, "x")),
    (use("b", "x"), ("module", B)),
    (use("b.c", "x"), ("module", ("b", "c"))),
    (use("x.b.c"), ("module", ("x",))),
    (use("x"), ("module", ("x",))),
    (("lazy", ("b", "c"), "x"), ("module", ("b", "c"))),
    (("lazy", ("none", "c"), "x"), ("module", ("none", "c"))),
    (use("none", "x"), ("module", ("none",))),
    (("from", 0, B, (("y", "x"),)), ("own", B, "y")),
    (("from", 1, B, (("y", "x"),)), ("own", B, "y")),
    (("from", 0, B, (("z", "x"),)), NONE),
    (("from", 0, ("none",), (("y", "x"),)), NONE),
    (("from", 2, B, (("y", "x"),)), NONE),
    (("from", 1, (), (("y", "x"),)), NONE),
)


def means(modules, dotted="a", x="x", **places):
    return meaning(shelf(modules, **places), path(dotted), x)


class OneBinding(unittest.TestCase):
    def in_a(self, *rows):
        return means({"a": plain(*rows), "b": plain(let("y"))})

    def test_none(self):
        for rows in (
            (), (let("y"),), (say("x"),), (("set", name("x"), "x", ONE),), (("again", ("x",)),), (("show", ("x",)),),
            (("hide", ("x",)),),
            (("def", "f", ("x",), (let("x"),)),), (("box", "b", (let("x"),)),), (use("b.x"),), (use("x", "y"),),
            (("from", 0, B, (("x", "y"),)),), (("far", "x", B, "x", "y"),), (("lazy", ("x",), "y"),),
            (("def", "f", (), (("top", ("x",)), say("x"))),),
        ):
            with self.subTest(rows=rows):
                self.assertEqual(self.in_a(*rows), NONE)

    def test_each_kind(self):
        for row, sense in BINDING:
            with self.subTest(row=row):
                self.assertEqual(self.in_a(row), sense)
                self.assertEqual(self.in_a(let("y"), row, say("x")), sense)

    def test_in_a_when_and_in_a_try(self):
        for row, sense in BINDING:
            for outer in (
                ("when", ONE, (row,), ()), ("when", ONE, (), (row,)), ("try", (row,), ()),
                ("try", (), (("when", ONE, (row,), ()),)),
            ):
                with self.subTest(outer=outer):
                    self.assertEqual(self.in_a(outer), sense)

    def test_by_top_in_a_def(self):
        for row, sense in BINDING:
            for rows in ((("top", ("x",)), row), (row, ("top", ("x",))), (("try", (row,), (("top", ("x",)),)),)):
                with self.subTest(rows=rows):
                    self.assertEqual(self.in_a(("def", "f", (), rows)), sense)
                    self.assertEqual(self.in_a(("box", "b", (("def", "f", (), rows),))) if rows[0][0] != "try" else sense, sense)

    def test_a_pair_among_several(self):
        row = ("from", 0, B, (("n", "m"), ("y", "x"), ("x", "y")))
        self.assertEqual(self.in_a(row), ("own", B, "y"))

    def test_a_module_below(self):
        for sort in ("package", "wide"):
            self.assertEqual(means({"a": (sort, ()), "a.x": plain()}), ("module", ("a", "x")))
        self.assertEqual(means({"a": plain(), "a.x": plain()}), NONE)
        self.assertEqual(means({"a": package(), "a.y": plain(), "x": plain()}), NONE)
        self.assertEqual(means({"a": package(), "a.x": package(), "a.x.x": plain()}, "a.x"), ("module", ("a", "x", "x")))

    def test_a_module_below_in_another_place(self):
        self.assertEqual(means({"a": package()}, last={"a.x": plain()}), NONE)
        self.assertEqual(means({"a": wide()}, last={"a.x": plain()}), ("module", ("a", "x")))
        self.assertEqual(means({"a": plain()}, last={"a": wide(), "a.x": plain()}), NONE)

    def test_a_path_of_four_names(self):
        modules = {"a": package(), "a.b": package(), "a.b.c": package(), "a.b.c.d": package(let("y"))}
        self.assertEqual(means(modules, "a.b.c.d"), NONE)
        self.assertEqual(means(modules, "a.b.c.d", "y"), ("own", ("a", "b", "c", "d"), "y"))
        self.assertEqual(means(modules, "a.b.c", "d"), ("module", ("a", "b", "c", "d")))
        self.assertEqual(means({**modules, "m": plain(take("a.b.c.d", "x"))}, "m"), NONE)

    def test_the_rows_are_those_of_the_place_where_the_module_is_found(self):
        self.assertEqual(means({"a": plain(let("x"))}, last={"a": plain()}), ("own", A, "x"))
        self.assertEqual(means({"a": plain()}, last={"a": plain(let("x"))}), NONE)

    def test_hidden_and_shown_names_mean_what_they_mean(self):
        self.assertEqual(self.in_a(let("x"), ("hide", ("x",))), ("own", A, "x"))
        self.assertEqual(self.in_a(let("x"), ("show", ("y",))), ("own", A, "x"))


class SeveralBindings(unittest.TestCase):
    def test_two_of_each_kind(self):
        for first, _ in BINDING:
            for second, _ in BINDING:
                with self.subTest(first=first, second=second):
                    self.assertEqual(means({"a": plain(first, second), "b": plain(let("y"))}), MANY)

    def test_two_in_one_from(self):
        self.assertEqual(means({"a": plain(("from", 0, B, (("y", "x"), ("y", "x")))), "b": plain(let("y"))}), MANY)

    def test_in_both_rows_of_a_when_and_in_a_def(self):
        self.assertEqual(means({"a": plain(("when", ONE, (let("x"),), (let("x"),)))}), MANY)
        self.assertEqual(means({"a": plain(let("x"), ("def", "f", (), (("top", ("x",)), let("x"))))}), MANY)
        self.assertEqual(means({"a": plain(let("x"), ("def", "f", (), (let("x"),)))}), ("own", A, "x"))

    def test_a_row_and_a_module_below(self):
        for row, _ in BINDING:
            self.assertEqual(means({"a": package(row), "a.x": plain(), "b": plain(let("y"))}), MANY)

    def test_a_row_and_a_from_all(self):
        for row, _ in BINDING:
            self.assertEqual(means({"a": plain(row, take_all("c")), "b": plain(let("y")), "c": plain(let("x"))}), MANY)
            self.assertNotEqual(means({"a": plain(row, take_all("c")), "b": plain(let("y")), "c": plain(let("z"))}), MANY)

    def test_two_from_alls(self):
        modules = {"a": plain(take_all("b"), take_all("c")), "b": plain(let("x")), "c": plain(let("y"))}
        self.assertEqual(means(modules), ("own", B, "x"))
        self.assertEqual(means({**modules, "c": plain(let("x"))}), MANY)
        self.assertEqual(means({"a": plain(take_all("b"), take_all("b")), "b": plain(let("x"))}), MANY)

    def test_two_ways_to_the_same_object_are_many(self):
        modules = {"a": plain(take_all("b"), take_all("c")), "b": plain(take_all("d")), "c": plain(take_all("d")), "d": plain(let("x"))}
        self.assertEqual(means(modules), MANY)
        self.assertEqual(means({**modules, "c": plain(take("d", "x"))}), MANY)
        self.assertEqual(means({**modules, "a": plain(take_all("b"))}), ("own", ("d",), "x"))


class Froms(unittest.TestCase):
    def test_froms_of_froms(self):
        modules = {"a": plain(("from", 0, B, (("y", "x"),))), "b": plain(("from", 0, C, (("z", "y"),)))}
        for row, sense in (
            (let("z"), ("own", C, "z")), (use("k", "z"), ("module", ("k",))),
            (("lazy", ("k",), "z"), ("module", ("k",))), (let("y"), NONE),
            (take("none", "z"), NONE), (("from", 0, C, (("z", "z"),)), RING), (("from", 0, B, (("y", "z"),)), RING),
            (("from", 0, A, (("x", "z"),)), RING),
        ):
            with self.subTest(row=row):
                self.assertEqual(means({**modules, "c": plain(row)}), sense)
        self.assertEqual(means({**modules, "c": plain(let("z"), let("z"))}), MANY)
        self.assertEqual(means(modules), NONE)

    def test_a_module_below_by_from(self):
        modules = {"a": plain(take("b", "x")), "b": package(), "b.x": plain()}
        self.assertEqual(means(modules), ("module", ("b", "x")))
        self.assertEqual(means({**modules, "b": package(let("x"))}), MANY)
        self.assertEqual(means({**modules, "b": plain()}), NONE)

    def test_hidden_names_are_taken_by_a_from(self):
        self.assertEqual(means({"a": plain(take("b", "x")), "b": plain(let("x"), ("hide", ("x",)))}), ("own", B, "x"))

    def test_dots(self):
        tree = {"n": plain(let("x")), "p": package(let("x")), "p.q": package(let("x")), "p.q.r": plain(let("x"))}
        for dotted, sort, dots, below, sense in (
            ("m", "plain", 1, ("n",), ("own", ("n",), "x")), ("m", "package", 1, ("n",), NONE),
            ("m", "package", 2, ("n",), ("own", ("n",), "x")),
            ("m", "wide", 2, ("p", "q"), ("own", ("p", "q"), "x")), ("m", "plain", 2, ("n",), NONE),
            ("m", "package", 3, ("n",), NONE),
            ("p.m", "plain", 1, (), ("own", ("p",), "x")), ("p.m", "package", 2, (), ("own", ("p",), "x")),
            ("p.m", "plain", 1, ("q",), ("own", ("p", "q"), "x")), ("p.m", "plain", 2, ("n",), ("own", ("n",), "x")),
            ("p.m", "plain", 2, (), NONE), ("p.q.m", "plain", 3, ("n",), ("own", ("n",), "x")),
            ("p.q.m", "wide", 3, (), ("own", ("p",), "x")),
            ("p.q.m", "plain", 1, ("r",), ("own", ("p", "q", "r"), "x")), ("p.q.m", "plain", 1, ("r", "s", "t"), NONE),
            ("p.q.m", "package", 1, (), RING),
        ):
            with self.subTest(dotted=dotted, sort=sort, dots=dots, below=below):
                for pairs in ((("x", "x"),), "*"):
                    if sense == RING and pairs == "*":
                        continue
                    modules = {**tree, dotted: (sort, (("from", dots, below, pairs),))}
                    self.assertEqual(means(modules, dotted), sense)

    def test_rings(self):
        self.assertEqual(means({"a": plain(take("a", "x"))}), RING)
        self.assertEqual(means({"a": plain(("from", 0, A, (("y", "x"), ("x", "y"))))}), RING)
        self.assertEqual(means({"a": plain(("from", 0, A, (("y", "x"),)), let("y"))}), ("own", A, "y"))
        modules = {"a": plain(take("b", "x")), "b": plain(take("c", "x")), "c": plain(take("a", "x"))}
        self.assertEqual([means(modules, each) for each in "abc"], [RING] * 3)

    def test_a_ring_that_does_not_return_to_the_first_name(self):
        self.assertEqual(means({"a": plain(take("b", "x")), "b": plain(take("c", "x")), "c": plain(take("b", "x"))}), RING)

    def test_a_ring_of_modules_that_is_none_of_names(self):
        modules = {"a": plain(("from", 0, B, (("y", "x"),)), let("z")), "b": plain(("from", 0, A, (("z", "y"),)))}
        self.assertEqual(means(modules), ("own", A, "z"))


class FromAlls(unittest.TestCase):
    def test_each_kind_of_binding_passes(self):
        for row, sense in (
            (let("x"), ("own", B, "x")), (("def", "x", (), ()), ("own", B, "x")), (("drop", "x"), ("own", B, "x")),
            (use("c", "x"), ("module", C)),
            (("lazy", C, "x"), ("module", C)), (take("c", "x"), ("own", C, "x")), (take_all("c"), ("own", C, "x")),
            (let("y"), NONE),
            (("def", "f", (), (("top", ("x",)), let("x"))), ("own", B, "x")), (take("none", "x"), NONE),
        ):
            with self.subTest(row=row):
                self.assertEqual(means({"a": plain(take_all("b")), "b": plain(row), "c": plain(let("x"))}), sense)
                self.assertEqual(means({"a": plain(("try", (), (take_all("b"),))), "b": plain(row), "c": plain(let("x"))}), sense)

    def test_a_pair_counts_whatever_it_means(self):
        # The from-all binds x although the pair in b means none, so that with the let there are two bindings.
        for module in (plain(take("none", "x")), plain(take("c", "x")), plain(take("b", "x")), plain(("from", 3, C, (("y", "x"),)))):
            self.assertEqual(means({"a": plain(let("x"), take_all("b")), "b": module, "c": plain(("hide", ("x",)))}), MANY)

    def test_a_module_that_is_not_found(self):
        self.assertEqual(means({"a": plain(take_all("none"))}), NONE)
        self.assertEqual(means({"a": plain(let("x"), take_all("none"), take_all("b", dots=2))}), ("own", A, "x"))
        modules = {"a": plain(let("x"), take_all("b")), "b": plain(take_all("none"), take_all("b", dots=2))}
        self.assertEqual(means(modules), ("own", A, "x"))

    def test_a_module_below(self):
        modules = {"a": plain(take_all("b")), "b": package(), "b.x": plain()}
        self.assertEqual(means(modules), ("module", ("b", "x")))
        self.assertEqual(means({**modules, "b": plain()}), NONE)
        self.assertEqual(means({**modules, "b": package(("hide", ("x",)))}), NONE)

    def test_a_show(self):
        modules = {"a": plain(take_all("b"))}
        self.assertEqual(means({**modules, "b": plain(let("x"), ("show", ("x",)))}), ("own", B, "x"))
        self.assertEqual(means({**modules, "b": plain(let("x"), ("show", ("y",)))}), NONE)
        self.assertEqual(means({**modules, "b": package(("show", ("x",))), "b.x": plain()}), ("module", ("b", "x")))

    def test_a_show_of_a_name_without_a_binding(self):
        modules = {"a": plain(take_all("b")), "b": plain(("show", ("x",)))}
        self.assertEqual(means(modules), NONE)
        self.assertEqual(means({**modules, "a": plain(let("x"), take_all("b"))}), MANY)

    def test_a_hide(self):
        modules = {"a": plain(take_all("b")), "b": plain(let("x"), let("y"), ("hide", ("x",)))}
        self.assertEqual((means(modules), means(modules, x="y")), (NONE, ("own", B, "y")))
        self.assertEqual(means({**modules, "a": plain(let("x"), take_all("b"))}), ("own", A, "x"))

    def test_a_hide_between(self):
        modules = {"a": plain(take_all("b")), "b": plain(take_all("c"), ("hide", ("x",))), "c": plain(let("x"), let("y"))}
        self.assertEqual((means(modules), means(modules, x="y")), (NONE, ("own", C, "y")))
        self.assertEqual(means(modules, "b"), ("own", C, "x"))

    def test_a_hide_of_the_module_itself_does_not_matter(self):
        modules = {"a": plain(take_all("b"), ("hide", ("x",)), ("show", ("y",))), "b": plain(let("x"))}
        self.assertEqual(means(modules), ("own", B, "x"))

    def test_from_alls_of_from_alls(self):
        names = "abcdefghijklmnopqrstuvwx"
        modules = {"m" + y: plain(take_all("m" + z)) for y, z in zip(names, names[1:])}
        self.assertEqual(means({**modules, "mx": plain(let("x"))}, "ma"), ("own", ("mx",), "x"))
        self.assertEqual(means({**modules, "mx": plain(let("y"))}, "ma"), NONE)

    def test_a_long_chain_needs_no_recursion(self):
        names = [x + y + z for x in "abcdefghij" for y in "abcdefghij" for z in "abcdefghijkl"]
        modules = {y: plain(take_all(z)) for y, z in zip(names, names[1:])}
        self.assertEqual(means({**modules, names[-1]: plain(let("y"))}, names[0]), NONE)

    def test_rings(self):
        modules = {"a": plain(take_all("b")), "b": plain(take_all("a"))}
        self.assertEqual((means(modules), means(modules, "b")), (NONE, NONE))
        modules = {"a": plain(take_all("b")), "b": plain(take_all("c")), "c": plain(take_all("a"), let("y"))}
        for each in "abc":
            self.assertEqual((means(modules, each), means(modules, each, "y")), (NONE, ("own", C, "y")))

    def test_a_from_all_that_returns_yields_none(self):
        modules = {"a": plain(let("x"), take_all("b")), "b": plain(take_all("a"))}
        self.assertEqual((means(modules), means(modules, "b")), (("own", A, "x"), ("own", A, "x")))
        self.assertEqual(means({"a": plain(let("x"), take_all("a"))}), ("own", A, "x"))
        self.assertEqual(means({"a": plain(let("x"), take_all("a", dots=1)), "b": plain()}), ("own", A, "x"))

    def test_a_from_all_that_returns_to_a_show(self):
        # The show decides alone: the from-all is a binding, although it leads back to the name that is asked for.
        show = ("show", ("x",))
        self.assertEqual(means({"b": plain(take_all("b"), let("x"), show)}, "b"), MANY)
        self.assertEqual(means({"b": plain(take_all("b"), show)}, "b"), RING)
        self.assertEqual(means({"b": plain(take_all("b"), let("x"), ("show", ("y",)))}, "b"), ("own", B, "x"))
        self.assertEqual(means({"b": package(take_all("", dots=1), let("x"), show)}, "b"), MANY)

    def test_a_from_all_that_returns_to_a_show_through_another_module(self):
        modules = {"a": plain(take_all("b")), "b": plain(take_all("a"), let("x"), ("show", ("x",)))}
        self.assertEqual((means(modules, "b"), means(modules)), (MANY, MANY))
        modules["b"] = plain(take_all("a"), ("show", ("x",)))
        self.assertEqual((means(modules, "b"), means(modules)), (RING, RING))
        modules["b"] = plain(take_all("a"), let("x"), ("show", ("y",)))
        self.assertEqual((means(modules, "b"), means(modules)), (("own", B, "x"), NONE))
        modules = {"a": plain(take_all("b"), ("hide", ("x",))), "b": plain(take_all("a"), let("x"), ("show", ("x",)))}
        self.assertEqual((means(modules, "b"), means(modules)), (("own", B, "x"), ("own", B, "x")))

    def test_a_ring_of_both(self):
        modules = {"a": plain(take("b", "x")), "b": plain(take_all("a"))}
        self.assertEqual((means(modules), means(modules, "b")), (RING, RING))

    def test_a_ring_of_shows(self):
        modules = {"a": plain(take_all("b"), ("show", ("x",))), "b": plain(take_all("a"), ("show", ("x",)))}
        self.assertEqual((means(modules), means(modules, "b"), means(modules, x="y")), (RING, RING, NONE))

    def test_a_second_way_out_of_a_ring(self):
        modules = {"a": plain(take_all("b"), take_all("c")), "b": plain(take_all("a")), "c": plain(take_all("a"), let("x"))}
        self.assertEqual([means(modules, each) for each in "abc"], [("own", C, "x")] * 3)


class Interface(unittest.TestCase):
    def test_errors_in_their_order(self):
        good = shelf({"a": plain(let("x")), "c.d": plain()})
        for bad in (None, True, {}, {"home": {}}, "a", World({"one": good}), object()):
            self.assertRaises(BadShelf, meaning, bad, None, None)
        for bad in (None, True, 1, "a", (), [], ["a"], {}, ("A",), ("a", ""), ("a",) * 5, ([],), object()):
            self.assertRaises(BadPath, meaning, good, bad, None)
        for bad in (("b",), ("a", "x"), ("c",), ("c", "d")):
            self.assertRaises(NoModule, meaning, good, bad, None)
        for bad in (None, True, 1, "", "X", "x1", "abcdefghi", b"x", (), ("x",), ["x"], {}, object()):
            self.assertRaises(BadName, meaning, good, A, bad)

    def test_parameters_by_name(self):
        self.assertEqual(meaning(name="x", path=A, shelf=shelf({"a": plain(let("x"))})), ("own", A, "x"))

    def test_names_of_any_length_that_are_not_bound(self):
        self.assertEqual(means({"a": plain()}, x="abcdefgh"), NONE)

    def test_nothing_is_run(self):
        self.assertEqual(means({"a": plain(say("none"), ("when", ("num", 0), (let("x"),), ()))}), ("own", A, "x"))


if __name__ == "__main__":
    unittest.main()

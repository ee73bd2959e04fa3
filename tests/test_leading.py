"""Point 21: moving a module to another path."""

import random
import unittest

from modulehall.entries import entries
from modulehall.errors import BadNumber, BadPath, BadShelf, NoModule
from modulehall.leading import relocated
from modulehall.moving import Cant, Moved
from modulehall.shelves import Shelf
from modulehall.worlds import World
from tests.kit import ONE, call, dot, let, name, package, path, plain, say, shelf, take, take_all, tell, use, wide
from tests.test_worlds import BAD_MOST

FAIL = say("missing")


def relocate(modules, old="p", new="q", most=500, **places):
    return relocated(shelf(modules, **places), path(old), path(new), most=most)


def why(modules, *given, **named):
    """The word and the dotted path of the reason why a module cannot be moved, or None if it is moved."""
    result = relocate(modules, *given, **named)
    return None if isinstance(result, Moved) else (result.word, ".".join(result.path))


def everywhere(*rows):
    """Ways in which rows can stand in a module, wherever it may be."""
    return (
        rows, (let("a"), *rows, let("b")), (("when", ONE, rows, ()),), (("when", ONE, (), rows),), (("try", rows, ()),),
        (("try", (), rows),), (("def", "f", (), rows),), (("box", "c", rows),),
        (("box", "c", (("def", "f", (), (("when", ONE, (), rows),)),)),),
    )


class Below(unittest.TestCase):
    def test_a_module_is_found_below(self):
        for sort in ("package", "wide"):
            self.assertEqual(why({"p": (sort, ()), "p.a": plain()}), ("below", "p"))
        self.assertEqual(why({"a": package(), "a.p": package(), "a.p.b": package(), "a.p.b.c": plain()}, "a.p"), ("below", "a.p"))
        self.assertEqual(why({"p": wide()}, last={"p.a": plain()}), ("below", "p"))

    def test_modules_that_are_not_found_below(self):
        self.assertIsNone(why({"p": plain(), "p.a": plain()}))
        self.assertIsNone(why({"p": package()}, last={"p.a": plain()}))
        self.assertIsNone(why({"p": package(), "pa": plain(), "p.a.b": plain()}))

    def test_a_module_above_does_not_matter(self):
        self.assertIsNone(why({"a": package(), "a.p": plain()}, "a.p"))


class Taken(unittest.TestCase):
    def test_some_place_has_the_path(self):
        self.assertEqual(why({"p": plain(), "q": plain()}), ("taken", "q"))
        self.assertEqual(why({"p": plain()}, last={"q": plain()}), ("taken", "q"))
        self.assertEqual(why({"q": plain()}, last={"p": plain()}), ("taken", "q"))

    def test_also_if_it_is_not_found(self):
        self.assertEqual(why({"p": plain(), "a.q": plain()}, new="a.q"), ("taken", "a.q"))
        self.assertEqual(why({"p": plain(), "a": package()}, new="a.q", last={"a.q": plain()}), ("taken", "a.q"))

    def test_other_paths_do_not_matter(self):
        self.assertIsNone(why({"p": plain(), "qq": plain(), "q.a": plain()}))


class Parent(unittest.TestCase):
    def test_a_parent_that_is_the_module_itself(self):
        for sort in ("plain", "package", "wide"):
            self.assertEqual(why({"p": (sort, ())}, new="p.q"), ("parent", "p.q"))

    def test_a_parent_that_is_not_found(self):
        self.assertEqual(why({"p": plain()}, new="a.q"), ("parent", "a.q"))
        self.assertEqual(why({"p": package(), "p.a": plain()}, "p.a", new="p.a.q"), ("parent", "p.a.q"))
        self.assertEqual(why({"p": plain(), "a": package()}, new="a.b.q", last={"a.b": package()}), ("parent", "a.b.q"))
        self.assertEqual(why({"p": package()}, new="p.a.q"), ("parent", "p.a.q"))

    def test_a_plain_parent(self):
        self.assertEqual(why({"p": plain(), "a": plain()}, new="a.q"), ("parent", "a.q"))
        self.assertEqual(why({"p": plain(), "a": plain()}, new="a.q", last={"a": wide()}), ("parent", "a.q"))

    def test_a_package(self):
        self.assertIsNone(why({"p": plain(), "a": package()}, new="a.q"))
        self.assertIsNone(why({}, new="a.q", last={"p": plain(), "a": package()}))
        self.assertEqual(why({"p": plain()}, new="a.q", last={"a": package()}), ("parent", "a.q"))
        self.assertEqual(why({"a": package()}, new="a.q", last={"p": plain()}), ("parent", "a.q"))
        self.assertEqual(why({"p": plain()}, new="a.q", mid={"a": package()}, last={"p": plain(), "a": package()}), ("parent", "a.q"))

    def test_a_wide_parent(self):
        for place in ({"p": plain(), "a": wide()}, {"p": plain()}):
            self.assertIsNone(why(place, new="a.q", last={} if "a" in place else {"a": wide()}))
        self.assertIsNone(why({"a": wide()}, new="a.q", last={"p": plain()}))
        self.assertEqual(why({"a": wide(), "a.b": package()}, new="a.b.q", last={"p": plain()}), ("parent", "a.b.q"))

    def test_a_path_of_one_name_needs_none(self):
        self.assertIsNone(why({"a": package(), "a.p": plain()}, "a.p", "q"))
        self.assertIsNone(why({"a": wide()}, "a.p", "q", last={"a.p": plain()}))

    def test_up_and_down(self):
        modules = {"a": package(), "a.b": package(), "a.b.c": package(), "p": plain()}
        self.assertIsNone(why(modules, new="a.b.c.q"))
        self.assertIsNone(why({"a": package(), "a.b": package(), "a.b.c": package(), "a.b.c.p": plain()}, "a.b.c.p", "a.q"))


class Bare(unittest.TestCase):
    def test_a_use_without_a_name(self):
        for rows in everywhere(use("p")):
            self.assertEqual(why({"p": plain(), "n": plain(*rows)}), ("bare", "n"))
        for rows in everywhere(use("p", "p")):
            self.assertIsNone(why({"p": plain(), "n": plain(*rows)}))
        modules = {"a": package(), "a.p": plain()}
        for rows in everywhere(use("a.p")):
            self.assertEqual(why({**modules, "n": plain(*rows)}, "a.p"), ("bare", "n"))

    def test_a_use_without_a_name_of_a_longer_path(self):
        for rows in everywhere(use("p.z.y")):
            self.assertEqual(why({"p": plain(), "n": plain(*rows)}), ("bare", "n"))
        modules = {"a": package(), "a.p": plain()}
        for row in (use("a.p.z"), use("a"), use("p"), use("p.a"), use("a.b")):
            self.assertIsNone(why({**modules, "n": plain(FAIL, row)}, "a.p"))
        for row in (use("p.z", "p"), use("a.p"), use("pp"), ("lazy", ("p",), "p"), ("again", ("p",)), take("p", "x")):
            self.assertIsNone(why({"p": plain(), "n": plain(FAIL, row)}))

    def test_a_from_that_takes_the_last_name(self):
        modules = {"a": package(), "a.p": plain(let("x"))}
        for row in (take("a", "p"), ("from", 0, ("a",), (("z", "y"), ("p", "y"))), ("from", 1, ("a",), (("p", "p"),))):
            for rows in everywhere(row):
                with self.subTest(rows=rows):
                    self.assertEqual(why({**modules, "n": plain(*rows)}, "a.p"), ("bare", "n"))
        self.assertEqual(why({**modules, "a.n": plain(take("", "p", dots=1))}, "a.p"), ("bare", "a.n"))
        self.assertEqual(why({**modules, "a": package(take("", "p", dots=1))}, "a.p"), ("bare", "a"))
        self.assertEqual(why({"a": package(), "a.p": plain(take("a", "p"))}, "a.p"), ("bare", "a.p"))
        for row in (("from", 0, ("a",), (("x", "p"),)), take("b", "p"), take("a.p", "p"), take("p", "p"), take("p", "a")):
            self.assertIsNone(why({**modules, "n": plain(FAIL, row)}, "a.p"))

    def test_a_from_of_a_module_without_a_parent(self):
        for row in (take("n", "p"), take("o", "p"), ("from", 1, (), (("p", "p"),)), take_all("o"), take_all("", dots=1)):
            self.assertIsNone(why({"p": plain(), "o": plain(let("p")), "n": plain(FAIL, row)}))

    def test_a_from_all(self):
        modules = {"a": package(), "a.p": plain()}
        for row in (take_all("a"), take_all("a", dots=1)):
            for rows in ((row,), (("when", ONE, (), (row,)),), (let("z"), ("try", (("try", (row,), ()),), ()))):
                self.assertEqual(why({**modules, "n": plain(*rows)}, "a.p"), ("bare", "n"))
        self.assertIsNone(why({**modules, "n": plain(take_all("b")), "b": plain(let("p"))}, "a.p"))

    def test_a_from_all_of_a_parent_with_a_show_or_a_hide(self):
        for row, expected in (
            (("show", ("x", "p")), ("bare", "n")), (("show", ("x",)), None), (("hide", ("p",)), None), (("hide", ("x",)), ("bare", "n")),
        ):
            modules = {"a": package(let("x"), row), "a.p": plain(), "n": plain(take_all("a"))}
            self.assertEqual(why(modules, "a.p"), expected, row)

    def test_a_from_all_of_the_parent_by_itself(self):
        # A from-all that leads back binds nothing, unless the module shows the name.
        modules = {"a": package(take_all("a")), "a.p": plain()}
        self.assertIsNone(why(modules, "a.p"))
        self.assertEqual(why({**modules, "a": package(take_all("a"), ("show", ("p",)))}, "a.p"), ("bare", "a"))

    def test_the_first_in_order(self):
        user = plain(use("p"))
        self.assertEqual(why({"p": plain(), "z": user, "n": user, "b": plain(), "o": user}), ("bare", "n"))
        self.assertEqual(why({"p": plain(use("p")), "z": user}), ("bare", "p"))

    def test_modules_that_are_not_found_do_not_count(self):
        self.assertIsNone(why({"p": plain(), "n": plain(), "k.n": plain(use("p"))}, last={"n": plain(use("p"))}))


class Falls(unittest.TestCase):
    def test_no_longer_whole(self):
        modules = {"a": package(), "a.p": plain(let("x")), "n": plain(use("a.p", "k"), use("a", "a"), ("say", dot(dot("a", "p"), "x")))}
        self.assertEqual(why(modules, "a.p"), ("falls", "n"))

    def test_the_module_itself(self):
        modules = {"a": package(FAIL), "p": plain()}
        self.assertEqual(why(modules, new="a.q"), ("falls", "p"))
        self.assertEqual(why({**modules, "o": plain(use("p", "p"))}, new="a.q"), ("falls", "o"))

    def test_modules_that_did_not_load_whole_before_do_not_count(self):
        self.assertIsNone(why({"p": plain(FAIL), "n": plain(use("p", "p"))}))
        self.assertIsNone(why({"p": plain(), "n": plain(use("q", "q"))}))

    def test_other_outputs(self):
        # The new parent says something, too.
        modules = {"p": plain(tell(1)), "a": package(tell(2))}
        self.assertEqual(why(modules, new="a.q"), ("falls", "p"))
        self.assertIsNone(why({"p": plain(tell(1)), "a": package()}, new="a.q"))
        self.assertIsNone(why({**modules, "p": plain(tell(1), FAIL)}, new="a.q"))
        # The old parent says nothing any more.
        self.assertEqual(why({"a": package(tell(2)), "a.p": plain(tell(1))}, "a.p"), ("falls", "a.p"))

    def test_other_outputs_in_another_module(self):
        modules = {"p": plain(tell(1)), "a": package(tell(2)), "n": plain(use("p", "p"))}
        self.assertEqual(why(modules, new="a.q"), ("falls", "n"))
        modules = {"a": package(tell(2)), "a.p": plain(), "n": plain(use("a", "k"), use("a.p", "p")), "m": plain(use("a.p", "p"))}
        self.assertEqual(why({**modules, "a.p": plain(FAIL)}, "a.p"), None)
        self.assertEqual(why(modules, "a.p"), ("falls", "a.p"))

    def test_defs_and_boxes_are_compared_by_their_names(self):
        row = ("def", "f", (), ())
        modules = {"p": plain(row, say("f"), ("box", "b", ()), say("b")), "a": package(row), "n": plain(use("p", "p"), ("say", dot("p", "f")))}
        self.assertIsNone(why(modules, new="a.q"))

    def test_the_module_is_the_new_one_in_outputs(self):
        modules = {"p": plain(use("p", "me"), say("me")), "n": plain(use("p", "k"), say("k"))}
        self.assertIsNone(why(modules))
        self.assertIsNone(why({**modules, "a": package()}, new="a.q"))
        # A module of the old path that is found only afterwards is another one.
        lazy = plain(("def", "f", (), (use("n", "n"), ("give", name("n")))), ("say", call("f")))
        self.assertIsNone(why({**modules, "o": lazy}))

    def test_a_module_in_another_place_that_is_found_afterwards(self):
        user = plain(use("p", "a"), say("a"))
        self.assertIsNone(why({"p": plain()}, last={"p": plain(), "n": user}))
        result = relocate({"p": plain()}, last={"p": plain(), "n": user}).shelf
        self.assertEqual(result.paths(), [("n",), ("p",), ("q",)])

    def test_rows_that_may_be_run(self):
        modules = {"p": plain(let("x")), "a": package(let("y"))}
        self.assertEqual(why(modules, new="a.q", most=1), ("falls", "p"))
        self.assertIsNone(why(modules, new="a.q", most=2))
        self.assertIsNone(why(modules, new="a.q", most=0))

    def test_500_rows_unless_told_otherwise(self):
        # Loading z takes 494 rows and those behind the uses, and one more when the parent of p is loaded, too.
        many = {"n" + x: plain(*[tell(1)] * 40) for x in "abcdefghijkl"}
        uses = [use("n" + x, "x") for x in "abcdefghijkl"]
        for more, expected, before in ((5, None, "whole"), (6, ("falls", "z"), "whole"), (7, None, "fell")):
            modules = {**many, "z": plain(*uses, use("p", "p"), *[tell(1)] * more), "p": plain(let("x")), "a": package(let("y"))}
            given = shelf(modules)
            with self.subTest(more=more):
                self.assertEqual(dict(entries(given))[("z",)][0], before)
                result = relocated(given, ("p",), ("a", "q"))
                self.assertEqual(result == Cant("falls", ("z",)), expected is not None)
                self.assertEqual(why(modules, new="a.q", most=500), expected)
                self.assertEqual(why(modules, new="a.q", most=499), {5: ("falls", "z")}.get(more))
                self.assertEqual(why(modules, new="a.q", most=501), {7: ("falls", "z")}.get(more))


class Order(unittest.TestCase):
    def test_the_first_reason_is_told(self):
        user, broken = plain(use("p")), plain(use("p", "k"), use("a", "a"), ("say", dot("k", "x")))
        parent = {"a": plain(), "a.q": plain()}
        open_parent = {"a": package(FAIL)}
        cases = (
            ({"p": package(let("x")), "p.z": plain(), **parent, "m": user, "n": broken}, ("below", "p")),
            ({"p": package(let("x")), **parent, "m": user, "n": broken}, ("taken", "a.q")),
            ({"p": package(let("x")), "a": plain(), "m": user, "n": broken}, ("parent", "a.q")),
            ({"p": package(let("x")), **open_parent, "m": user, "n": broken}, ("bare", "m")),
            ({"p": package(let("x")), **open_parent, "n": plain(use("p", "k"))}, ("falls", "n")),
            ({"p": package(let("x")), "a": package(), "n": plain(use("p", "k"))}, None),
        )
        for modules, expected in cases:
            self.assertEqual(why(modules, new="a.q"), expected)


class NewRows(unittest.TestCase):
    def check(self, modules, expected, old="p", new="q", **places):
        """Fail unless the module is moved and these are the modules of the place `home` afterwards."""
        result = relocate(modules, old, new, **places)
        self.assertIsInstance(result, Moved, getattr(result, "word", None))
        self.assertEqual(result.shelf.places(), shelf(expected, **places).places())
        self.assertEqual(result, Moved(shelf(expected, **places)))

    def test_the_module_alone(self):
        for sort in ("plain", "package", "wide"):
            self.check({"p": (sort, (let("x"),)), "n": plain()}, {"q": (sort, (let("x"),)), "n": plain()})

    def test_what_refers_to_it(self):
        for row, new in (
            (use("p", "k"), use("q", "k")), (("lazy", ("p",), "k"), ("lazy", ("q",), "k")), (("again", ("p",)), ("again", ("q",))),
            (take("p", "x"), take("q", "x")), (("from", 0, ("p",), (("x", "y"), ("p", "q"))), ("from", 0, ("q",), (("x", "y"), ("p", "q")))),
            (take("p", "x", dots=1), take("q", "x")),
        ):
            for rows, expected in zip(everywhere(row), everywhere(new)):
                with self.subTest(rows=rows):
                    self.check(
                        {"p": plain(let("x")), "n": plain(FAIL, *rows)}, {"q": plain(let("x")), "n": plain(FAIL, *expected)},
                    )

    def test_from_alls(self):
        modules = {"p": plain(let("x")), "n": plain(take_all("p"), ("try", (), (take_all("p", dots=1),)))}
        self.check(modules, {"q": plain(let("x")), "n": plain(take_all("q"), ("try", (), (take_all("q"),)))})

    def test_longer_paths(self):
        modules = {
            "a": package(), "a.p": plain(let("x")), "b": package(), "a.n": plain(take("p", "x", dots=1), use("a.p", "k")),
            "a.c": package(take("p", "x", dots=2)), "n": plain(take("a.p", "x", dots=1)),
        }
        expected = {
            "a": package(), "b.q": plain(let("x")), "b": package(), "a.n": plain(take("b.q", "x"), use("b.q", "k")),
            "a.c": package(take("b.q", "x")), "n": plain(take("b.q", "x")),
        }
        self.check(modules, expected, "a.p", "b.q")

    def test_a_from_of_a_package_with_dots_alone(self):
        rows = (let("x"), ("def", "f", (), (take("", "x", dots=1),)))
        self.check({"p": package(*rows)}, {"q": package(let("x"), ("def", "f", (), (take("q", "x"),)))})

    def test_the_moved_module_refers_to_itself(self):
        rows = use("p", "me"), let("x"), take("p", "x"), ("lazy", ("p",), "l"), ("def", "f", (), (("again", ("p",)),))
        new = use("q", "me"), let("x"), take("q", "x"), ("lazy", ("q",), "l"), ("def", "f", (), (("again", ("q",)),))
        self.check({"p": plain(*rows)}, {"q": plain(*new)})

    def test_the_moved_modules_own_froms_with_dots(self):
        modules = {"a": package(let("y")), "a.b": plain(let("x")), "n": plain(let("x")), "c": package()}
        for dots, below, expected in ((1, "b", "a.b"), (1, "", "a"), (2, "n", "n"), (2, "a.b", "a.b")):
            name = "y" if expected == "a" else "x"
            for rows, new in zip(everywhere(take(below, name, dots=dots)), everywhere(take(expected, name))):
                self.check({**modules, "a.p": plain(FAIL, *rows)}, {**modules, "c.q": plain(FAIL, *new)}, "a.p", "c.q")
        self.check(
            {**modules, "a.p": package(take("b", "x", dots=2), take_all("b", dots=2))},
            {**modules, "c.q": package(take("a.b", "x"), take_all("a.b"))}, "a.p", "c.q",
        )

    def test_froms_of_modules_that_are_not_found_lose_their_dots_too(self):
        modules = {"a": package()}
        self.check({**modules, "a.p": plain(FAIL, take("z", "x", dots=1))}, {**modules, "q": plain(FAIL, take("a.z", "x"))}, "a.p")

    def test_froms_that_lead_nowhere_stay(self):
        # Beyond the top, the empty path, and a path that is too long: there is no path to write without dots.
        rows = FAIL, take("z", "x", dots=2), take("z", "x", dots=3), take("", "x", dots=1)
        self.check({"p": plain(*rows)}, {"q": plain(*rows)})
        rows = FAIL, take("c.d.e", "x", dots=1)
        modules = {"a": package(), "a.b": package()}
        self.check({**modules, "a.b.p": plain(*rows)}, {**modules, "a.q": plain(*rows)}, "a.b.p", "a.q")

    def test_everything_else_stays(self):
        rows = (
            use("n", "p"), use("pp", "k"), use("p.z", "k"), ("lazy", ("z", "p"), "k"), ("again", ("n",)), take("n", "p"),
            take("z", "x", dots=1), take_all("n", dots=1), take_all("z", dots=3), ("far", "two", ("p",), "x", "y"), let("p"), say("p"),
            ("def", "p", (), ()), ("show", ("p",)),
        )
        self.check({"p": plain(), "n": plain(FAIL, *rows)}, {"q": plain(), "n": plain(FAIL, *rows)})
        self.check({"p": plain(("far", "two", ("p",), "x", "y"), take("n", "x"))}, {"q": plain(("far", "two", ("p",), "x", "y"), take("n", "x"))})

    def test_modules_that_are_not_found_stay(self):
        row = use("p", "p")
        modules = {"p": plain(), "k.n": plain(row), "n": plain(row)}
        last = {"n": plain(row), "p": plain(row, take("n", "x", dots=1)), "o": plain(row)}
        result = relocate(modules, last=last).shelf
        expected = shelf(
            {"q": plain(), "k.n": plain(row), "n": plain(use("q", "p"))}, last={**last, "o": plain(use("q", "p"))},
        )
        self.assertEqual(result, expected)

    def test_the_same_place(self):
        result = relocate({"n": plain()}, mid={"p": plain(let("x"))}, last={"p": plain()}).shelf
        self.assertEqual(result, shelf({"n": plain()}, mid={"q": plain(let("x"))}, last={"p": plain()}))
        self.assertEqual((result.found(("q",)), result.found(("p",))), ("mid", "last"))
        result = relocate({"a": wide()}, new="a.q", last={"p": plain()}).shelf
        self.assertEqual(result, shelf({"a": wide()}, last={"a.q": plain()}))
        self.assertEqual(result.found(("a", "q")), "last")

    def test_there_and_back(self):
        modules = {
            "a": package(use("p", "p")), "p": package(let("x"), use("n", "n")), "n": plain(take("p", "x"), ("lazy", ("p",), "l")),
            "o": plain(("def", "f", (), (("again", ("p",)), take("p", "x")))),
        }
        there = relocated(shelf(modules), ("p",), ("q",)).shelf
        self.assertNotEqual(there, shelf(modules))
        self.assertEqual(relocated(there, ("q",), ("p",)), Moved(shelf(modules)))
        modules["a"] = package()
        there = relocated(shelf(modules), ("p",), ("a", "q")).shelf
        self.assertEqual(there.found(("a", "q")), "home")
        self.assertEqual(relocated(there, ("a", "q"), ("p",)), Moved(shelf(modules)))


class Interface(unittest.TestCase):
    def test_errors_in_their_order(self):
        good = shelf({"p": plain(), "c.d": plain(), "z": package(), "z.a": plain()})
        for bad in (None, True, 0, "", {}, {"home": {}}, World({"one": good}), Moved(good), object()):
            self.assertRaises(BadShelf, relocated, bad, None, None, most=None)
        for bad in (None, True, 1, "p", (), [], ["p"], {}, ("P",), ("p", ""), ("p",) * 5, ([],), ((),), object(), set()):
            self.assertRaises(BadPath, relocated, good, bad, None, most=None)
            self.assertRaises(BadPath, relocated, good, bad, ("q",), most=None)
            self.assertRaises(BadPath, relocated, good, ("none",), bad, most=None)
            self.assertRaises(BadPath, relocated, good, ("p",), bad)
        self.assertRaises(BadPath, relocated, good, ("p",), ("p",), most=None)
        self.assertRaises(BadPath, relocated, good, ("none",), ("none",), most=None)
        for bad in (("none",), ("c",), ("c", "d"), ("p", "x")):
            self.assertRaises(NoModule, relocated, good, bad, ("q",), most=None)
            self.assertRaises(NoModule, relocated, good, bad, ("p",))
        for bad in BAD_MOST:
            self.assertRaises(BadNumber, relocated, good, ("p",), ("q",), most=bad)
            self.assertRaises(BadNumber, relocated, good, ("z",), ("p",), most=bad)

    def test_parameters_by_name(self):
        good = shelf({"p": plain()})
        expected = relocated(good, ("p",), ("q",))
        self.assertIsInstance(expected, Moved)
        self.assertEqual(relocated(most=500, other=("q",), path=("p",), shelf=good), expected)
        self.assertEqual(relocated(good, other=("q",), path=("p",)), expected)
        self.assertRaises(TypeError, relocated, good, ("p",), ("q",), 500)
        self.assertEqual([relocated(good, ("p",), ("q",), most=each) for each in (0, 2000)], [expected] * 2)

    def test_a_path_that_is_not_found_yet_is_no_error(self):
        self.assertEqual(relocate({"p": plain()}, new="a.b.c.d"), Cant("parent", path("a.b.c.d")))

    def test_the_shelf_does_not_change_and_the_result_is_new(self):
        given = shelf({"p": plain(let("x")), "n": plain(use("p", "p"))})
        first = relocated(given, ("p",), ("q",))
        first.shelf.places()["home"].clear()
        first.shelf.paths().clear()
        second = relocated(given, ("p",), ("q",))
        self.assertEqual(first, second)
        self.assertEqual(given, shelf({"p": plain(let("x")), "n": plain(use("p", "p"))}))
        first.shelf = None
        self.assertEqual(relocated(given, ("p",), ("q",)), second)


PATHS = (("a",), ("n",), ("p",), ("a", "p"), ("a", "n"))


class Chance(unittest.TestCase):
    """Random shelves: what holds for every module that is moved."""

    def some_row(self, chance):
        x, where = chance.choice("npx"), chance.choice(PATHS)
        dotted = ".".join(where)
        return chance.choice((
            let(x), use(dotted, x), use(dotted, x), use(dotted), ("lazy", where, x), take(dotted, x), take_all(dotted),
            ("def", "f", (), (take(dotted, x), use(dotted, x))), ("try", (take("n", x, dots=chance.choice((1, 2))),), (tell(1),)),
            ("try", (say(x),), ()), ("try", (("again", where),), ()),
        ))

    def some_shelf(self, chance):
        places = {"home": {}, "last": {}}
        for each in PATHS:
            rows = tuple(self.some_row(chance) for _ in range(chance.choice((0, 1, 2, 3))))
            places[chance.choice(("home", "home", "last"))][each] = (chance.choice(("plain", "package", "wide")), rows)
        return Shelf(places)

    def test_moves(self):
        chance = random.Random(21)
        words = {}
        for _ in range(1500):
            given = self.some_shelf(chance)
            old, new = chance.choice(given.paths()), chance.choice(PATHS + (("q",), ("a", "q"), ("p", "q"), ("n", "q")) * 3)
            if old == new:
                continue
            before = given.places()
            result = relocated(given, old, new)
            self.assertEqual(given.places(), before)
            word = "moved" if isinstance(result, Moved) else result.word
            words[word] = words.get(word, 0) + 1
            if isinstance(result, Moved):
                self.assertEqual(result.shelf.found(new), given.found(old))
                self.assertEqual(result.shelf.paths(), sorted([each for each in given.paths() if each != old] + [new]))
                after = dict(entries(result.shelf))
                for each, how in entries(given):
                    if how[0] == "whole":
                        self.assertEqual(after[new if each == old else each][0], "whole")
        for word in ("moved", "below", "taken", "parent", "bare", "falls"):
            self.assertGreater(words.get(word, 0), 0, words)


if __name__ == "__main__":
    unittest.main()

"""Point 15: how each path of a shelf would load."""

import unittest

from modulehall.entries import entries
from modulehall.errors import BadNumber, BadShelf
from modulehall.worlds import World
from tests.kit import let, name, package, path, plain, say, shelf, take, tell, use, wide
from tests.test_worlds import BAD_MOST

FAIL = say("missing")


def told(modules, most=500, **places):
    """The entries of a shelf by dotted paths, a list of dotted paths for those that are whole."""
    listed = {}
    for where, how in entries(shelf(modules, **places), most=most):
        listed[".".join(where)] = [".".join(each) for each in how[1]] if how[0] == "whole" else (how[1], ".".join(how[2]))
    return listed


class Entries(unittest.TestCase):
    def test_the_form(self):
        listed = entries(shelf({"a": package(use("b", "b")), "b": plain(), "a.c": plain(FAIL)}))
        self.assertEqual(listed, [
            (("a",), ("whole", [("b",), ("a",)])), (("a", "c"), ("fell", "name", ("a", "c"))), (("b",), ("whole", [("b",)])),
        ])
        self.assertIsInstance(listed, list)

    def test_each_path_that_is_found_in_order(self):
        modules = {"b": plain(), "a.y": plain(), "a": package(), "aa": plain(), "a.x": wide(), "b.x": plain(), "z.x": plain()}
        listed = entries(shelf(modules, last={"a.z": plain(), "a.x.k": plain()}))
        self.assertEqual([where for where, _ in listed], [path(x) for x in ("a", "a.x", "a.x.k", "a.y", "aa", "b")])

    def test_no_path(self):
        self.assertEqual(entries(shelf({})), [])

    def test_the_order_in_which_modules_become_whole(self):
        modules = {
            "a": package(use("a.b.c", "x"), use("d", "d")), "a.b": package(use("d", "d")), "a.b.c": plain(),
            "d": plain(use("a", "a")),
        }
        self.assertEqual(told(modules), {
            "a": ["d", "a.b", "a.b.c", "a"], "a.b": ["d", "a.b", "a.b.c", "a"], "a.b.c": ["d", "a.b", "a.b.c", "a"],
            "d": ["a.b", "a.b.c", "a", "d"],
        })

    def test_modules_that_remain_behind_a_failure_are_told(self):
        modules = {"a": plain(("try", (use("b", "b"),), ())), "b": plain(use("c", "c"), FAIL), "c": plain()}
        self.assertEqual(told(modules), {"a": ["c", "a"], "b": ("name", "b"), "c": ["c"]})

    def test_again_does_not_count(self):
        self.assertEqual(told({"a": plain(use("b", "b"), ("again", ("b",))), "b": plain()})["a"], ["b", "a"])

    def test_a_module_that_is_loaded_at_the_second_attempt_is_told_once(self):
        modules = {"a": plain(("try", (use("b", "b"),), ()), let("ok"), use("b", "b")), "b": plain(take("a", "ok"))}
        self.assertEqual(told(modules), {"a": ["b", "a"], "b": ["a", "b"]})

    def test_each_load_is_that_of_a_new_world(self):
        modules = {"a": plain(let("x"), use("b", "b"), let("y")), "b": plain(take("a", "y"))}
        self.assertEqual(told(modules), {"a": ("half", "b"), "b": ["a", "b"]})

    def test_each_word(self):
        modules = {
            "a": plain(FAIL), "b": plain(("say", ("dot", ("num", 1), "x"))), "c": plain(use("none", "x")),
            "d": plain(take("d", "x")),
            "e": plain(("hide", ("x",))), "f": plain(take("e", "x")), "g": plain(("say", ("call", ("num", 1), ()))),
            "h": plain(("def", "f", (), (("give", ("call", name("f"), ())),)), ("say", ("call", name("f"), ()))),
            "i": plain(("box", "b", ()), ("when", name("b"), (), ())), "j": plain(use("a", "a")),
            "k": plain(("far", "only", ("e",), "x", "y")),
        }
        self.assertEqual(told(modules), {
            "a": ("name", "a"), "b": ("dot", "b"), "c": ("module", "c"), "d": ("half", "d"), "e": ["e"], "f": ("hidden", "f"),
            "g": ("call", "g"), "h": ("deep", "h"), "i": ("number", "i"), "j": ("name", "a"), "k": ("module", "k"),
        })

    def test_a_far_finds_no_other_edition(self):
        for t in ("one", "two", "only", "first", "main", "a"):
            self.assertEqual(told({"a": plain(("far", t, ("b",), "x", "y")), "b": plain(let("x"))})["a"], ("module", "a"))

    def test_few_rows(self):
        modules = {"a": plain(tell(1), use("b", "b")), "b": plain(tell(1), tell(2)), "c": plain()}
        self.assertEqual(told(modules, 4), {"a": ["b", "a"], "b": ["b"], "c": ["c"]})
        self.assertEqual(told(modules, 3), {"a": ("spent", "b"), "b": ["b"], "c": ["c"]})
        self.assertEqual(told(modules, 1), {"a": ("spent", "a"), "b": ("spent", "b"), "c": ["c"]})
        self.assertEqual(told(modules, 0), {"a": ("spent", "a"), "b": ("spent", "b"), "c": ["c"]})

    def test_500_rows_unless_told_otherwise(self):
        modules = {"m" + x: plain(*[tell(1)] * 40) for x in "abcdefghijkl"}
        uses = [use("m" + x, "x") for x in "abcdefghijkl"]
        self.assertEqual(told({**modules, "z": plain(*uses, *[tell(1)] * 8)})["z"][-1], "z")
        self.assertEqual(told({**modules, "z": plain(*uses, *[tell(1)] * 9)})["z"], ("spent", "z"))
        listed = dict(entries(shelf({**modules, "z": plain(*uses, *[tell(1)] * 9)}), most=501))
        self.assertEqual(listed[("z",)][0], "whole")

    def test_errors(self):
        good = shelf({})
        for bad in (None, True, 0, "", {}, {"home": {}}, [], World({"one": good}), object()):
            self.assertRaises(BadShelf, entries, bad)
            self.assertRaises(BadShelf, entries, bad, most=None)
        for bad in BAD_MOST:
            self.assertRaises(BadNumber, entries, good, most=bad)
        self.assertRaises(TypeError, entries, good, 500)
        self.assertEqual([entries(shelf=good, most=0), entries(good, most=2000)], [[], []])

    def test_the_shelf_does_not_change_and_the_result_is_new(self):
        given = shelf({"a": plain()})
        entries(given)[0][1][1].append(1)
        self.assertEqual(entries(given), [(("a",), ("whole", [("a",)]))])
        self.assertEqual(given, shelf({"a": plain()}))


if __name__ == "__main__":
    unittest.main()

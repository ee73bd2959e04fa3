"""Point 9, as far as `Shelf` tells it, and the interface of shelves."""

import unittest

from modulehall.errors import BadPath, BadShelf, ModuleError
from modulehall.shelves import Shelf
from tests.kit import ONE, let

A, AB, ABC, ABCD = ("a",), ("a", "b"), ("a", "b", "c"), ("a", "b", "c", "d")
PLAIN, PACKAGE, WIDE = ("plain", ()), ("package", ()), ("wide", ())


class Places(unittest.TestCase):
    def test_one_to_four_places(self):
        for many in range(1, 5):
            given = {place: {A: PLAIN} for place in ("one", "two", "three", "four")[:many]}
            self.assertEqual(Shelf(given).places(), given)

    def test_places_without_modules_and_all_sorts(self):
        given = {"q": {}, "p": {A: ("wide", (let("x"),)), ABCD: ("plain", ()), ("z",): ("package", (("say", ONE),) * 40)}}
        self.assertEqual(Shelf(places=given).places(), given)

    def test_the_order_of_the_places(self):
        self.assertEqual(list(Shelf({"q": {}, "p": {}, "z": {}, "a": {}}).places()), ["q", "p", "z", "a"])

    def test_not_such_a_dict(self):
        good = {A: PLAIN}
        for bad in (
            None, True, 0, "p", b"p", (), [], [("p", good)], ("p",), object(), {},
            {"p": good, "q": good, "r": good, "s": good, "t": good},
            {"": good}, {"P": good}, {"abcdefghi": good}, {"p1": good}, {None: good}, {1: good}, {True: good}, {("p",): good},
            {"p": None}, {"p": True}, {"p": [A]}, {"p": ()}, {"p": [(A, PLAIN)]}, {"p": "a"}, {"p": good, "q": None},
            {"p": good, "q": {A: None}}, {"p": good, "Q": good},
        ):
            with self.subTest(bad=bad), self.assertRaises(BadShelf):
                Shelf(bad)

    def test_not_a_path(self):
        for bad in ("a", None, 1, True, (), (None,), ("A",), ("a", ""), ("a",) * 5, ("abcdefghi",), b"a", (("a",),)):
            with self.subTest(bad=bad), self.assertRaises(BadShelf):
                Shelf({"p": {A: PLAIN, bad: PLAIN}})

    def test_not_a_pair_of_a_sort_and_rows(self):
        for bad in (
            None, True, "plain", (), ("plain",), ("plain", (), ()), ["plain", ()], {"plain": ()}, ("Plain", ()), ("", ()),
            (None, ()), (True, ()), (1, ()), ([], ()), ({}, ()), (("plain",), ()), ("box", ()), (b"plain", ()), ("plain ", ()),
            ((), "plain"),
        ):
            with self.subTest(bad=bad), self.assertRaises(BadShelf):
                Shelf({"p": {A: bad}})

    def test_invalid_rows(self):
        for bad in (
            None, True, "", [], [let("x")], {}, 5, (None,), ("let", "x", ONE), (("let", "X", ONE),), (let("x"), ("give", ONE)),
            (let("x"),) * 41, (("show", ("a",)), ("show", ("b",))), (("say", ("num", True)),),
            (("def", "f", (), (("outer", ("x",)),)),),
        ):
            for sort in ("plain", "package", "wide"):
                with self.subTest(bad=bad), self.assertRaises(BadShelf) as caught:
                    Shelf({"o": {A: PLAIN}, "p": {AB: PLAIN, A: (sort, bad)}})
                self.assertEqual(caught.exception.__class__.__bases__, (ModuleError,))

    def test_the_shelf_does_not_keep_what_it_is_given(self):
        inner = {A: PLAIN}
        given = {"p": inner}
        shelf = Shelf(given)
        inner[AB] = PLAIN
        del inner[A]
        given["q"] = {}
        self.assertEqual(shelf.places(), {"p": {A: PLAIN}})
        self.assertEqual((shelf.found(A), shelf.paths()), ("p", [A]))

    def test_the_shelf_does_not_change_what_it_is_given(self):
        given = {"q": {A: PACKAGE}, "p": {AB: PLAIN}}
        shelf = Shelf(given)
        shelf.paths(), shelf.found(AB), shelf.places()
        self.assertEqual(given, {"q": {A: PACKAGE}, "p": {AB: PLAIN}})
        self.assertEqual(list(given), ["q", "p"])

    def test_changes_of_the_places_change_nothing_in_the_shelf(self):
        shelf = Shelf({"p": {A: PACKAGE}, "q": {}})
        told = shelf.places()
        told["p"][AB] = PLAIN
        told["q"] = {("z",): PLAIN}
        del told["p"][A]
        self.assertEqual(shelf.places(), {"p": {A: PACKAGE}, "q": {}})
        self.assertEqual(shelf.paths(), [A])

    def test_paths_is_a_new_list(self):
        shelf = Shelf({"p": {A: PACKAGE}})
        shelf.paths().append(AB)
        self.assertEqual(shelf.paths(), [A])


class Found(unittest.TestCase):
    def test_one_name_is_searched_in_all_places_in_order(self):
        shelf = Shelf({"q": {}, "p": {A: PLAIN}, "a": {A: PLAIN, ("b",): WIDE}})
        self.assertEqual([shelf.found(A), shelf.found(path=("b",)), shelf.found(("c",))], ["p", "a", None])

    def test_below_a_plain_module_nothing_is_found(self):
        shelf = Shelf({"p": {A: PLAIN, AB: PACKAGE, ABC: PLAIN}, "q": {A: WIDE, AB: WIDE}})
        self.assertEqual([shelf.found(each) for each in (A, AB, ABC)], ["p", None, None])

    def test_below_a_package_only_its_own_place_is_searched(self):
        shelf = Shelf({"o": {AB: PLAIN}, "p": {A: PACKAGE, ("a", "c"): PLAIN}, "q": {("a", "d"): PLAIN, A: WIDE}})
        self.assertEqual([shelf.found(("a", x)) for x in "bcd"], [None, "p", None])

    def test_below_a_wide_module_all_places_are_searched_in_order(self):
        shelf = Shelf({
            "o": {AB: PLAIN}, "p": {A: WIDE, AB: PLAIN, ("a", "c"): PLAIN}, "q": {("a", "c"): PLAIN, ("a", "d"): PLAIN},
        })
        self.assertEqual([shelf.found(("a", x)) for x in "bcde"], ["o", "p", "q", None])

    def test_the_sort_is_that_of_the_place_where_the_parent_is_found(self):
        shelf = Shelf({"p": {A: WIDE}, "q": {A: PLAIN, AB: PACKAGE, ABC: PLAIN}, "r": {ABC: PLAIN, AB: WIDE}})
        self.assertEqual([shelf.found(each) for each in (A, AB, ABC)], ["p", "q", "q"])
        shelf = Shelf({"p": {A: WIDE, ABC: PLAIN}, "q": {AB: PACKAGE}, "r": {ABC: PLAIN, AB: WIDE}})
        self.assertEqual([shelf.found(each) for each in (A, AB, ABC)], ["p", "q", None])

    def test_a_missing_parent(self):
        shelf = Shelf({"p": {AB: PACKAGE, ABC: PLAIN, ("c",): WIDE, ("c", "d", "e"): PLAIN}})
        self.assertEqual([shelf.found(each) for each in (A, AB, ABC, ("c", "d", "e"))], [None] * 4)

    def test_four_names(self):
        modules = {A: PACKAGE, AB: WIDE, ABC: PACKAGE, ABCD: PLAIN}
        self.assertEqual(Shelf({"p": modules}).found(ABCD), "p")
        self.assertEqual(Shelf({"p": {A: PACKAGE, AB: WIDE}, "q": {ABC: PACKAGE, ABCD: PLAIN}}).found(ABCD), "q")
        self.assertIsNone(Shelf({"p": {A: PACKAGE, AB: WIDE, ABCD: PLAIN}, "q": {ABC: PACKAGE}}).found(ABCD))
        self.assertIsNone(Shelf({"p": {**modules, ABC: PLAIN}}).found(ABCD))
        self.assertIsNone(Shelf({"p": {**modules, A: PLAIN}}).found(ABCD))

    def test_not_a_path(self):
        shelf = Shelf({"p": {A: WIDE}})
        for bad in (
            None, True, 1, "a", b"a", (), [], ["a"], {}, (None,), ("",), ("A",), ("a", "B"), ("a", 1), ([],), ({},),
            ("a", ["b"]), ("a",) * 5, ("abcdefghi",), ("a", ("b",)), object(), (("a",),),
        ):
            with self.subTest(bad=bad), self.assertRaises(BadPath):
                shelf.found(bad)


class Paths(unittest.TestCase):
    def test_all_paths_that_are_found_in_order_and_once(self):
        shelf = Shelf({
            "p": {("b",): PLAIN, ("aa",): WIDE, A: WIDE, ABC: PLAIN, ("b", "x"): PLAIN, ("z", "y"): PLAIN},
            "q": {("ab",): PLAIN, AB: PACKAGE, A: PLAIN, ("a", "a"): PLAIN, ("aa", "z"): WIDE, ("b",): PLAIN},
            "o": {("a", "c"): PLAIN, ABC: PLAIN, ("a", "b", "a"): PLAIN},
        })
        self.assertEqual(shelf.paths(), [A, ("a", "a"), AB, ("a", "c"), ("aa",), ("aa", "z"), ("ab",), ("b",)])

    def test_no_paths(self):
        self.assertEqual(Shelf({"p": {}}).paths(), [])
        self.assertEqual(Shelf({"p": {AB: WIDE}}).paths(), [])


class Equal(unittest.TestCase):
    def test_equal_places_in_the_same_order(self):
        first = Shelf({"p": {A: PACKAGE, AB: ("plain", (let("x"),))}, "q": {}})
        second = Shelf({"p": {AB: ("plain", (let("x"),)), A: PACKAGE}, "q": {}})
        self.assertTrue(first == second)
        self.assertFalse(first != second)
        self.assertTrue(first == Shelf(first.places()))

    def test_equal_places_in_another_order(self):
        self.assertFalse(Shelf({"p": {A: PLAIN}, "q": {}}) == Shelf({"q": {}, "p": {A: PLAIN}}))
        self.assertTrue(Shelf({"p": {}, "q": {}}) != Shelf({"q": {}, "p": {}}))

    def test_other_places(self):
        shelf = Shelf({"p": {A: PLAIN}})
        for other in ({"q": {A: PLAIN}}, {"p": {}}, {"p": {A: WIDE}}, {"p": {A: ("plain", (let("x"),))}}, {"p": {AB: PLAIN}}):
            self.assertFalse(shelf == Shelf(other))
        self.assertFalse(shelf == Shelf({"p": {A: PLAIN}, "q": {}}))

    def test_other_values(self):
        shelf = Shelf({"p": {A: PLAIN}})
        for other in (None, 1, "p", {"p": {A: PLAIN}}, shelf.places(), []):
            self.assertFalse(shelf == other)
            self.assertTrue(shelf != other)

    def test_each_method_stands_in_the_class_itself(self):
        for method in ("__init__", "__eq__", "places", "found", "paths"):
            self.assertIn(method, vars(Shelf))


if __name__ == "__main__":
    unittest.main()

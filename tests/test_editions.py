"""Point 13: editions, far and `mixed`."""

import unittest

from modulehall.worlds import World
from tests.kit import ONE, call, dot, fell, heard, let, name, num, package, plain, say, shelf, take, tell, use

FAR = ("far", "two", ("o",), "x", "y")


def hall(one, two, three=None, most=500):
    """A world with the editions one, two and, if need be, three."""
    shelves = {"one": shelf(one), "two": shelf(two)}
    if three is not None:
        shelves["three"] = shelf(three)
    return World(shelves, most=most)


class Apart(unittest.TestCase):
    def test_each_edition_has_its_own_shelf_and_table(self):
        both = hall({"a": plain(tell(1)), "b": plain()}, {"a": plain(tell(2)), "c": plain()})
        both.load(("a",), edition="two")
        both.load(("a",))
        both.load(("b",), edition="one")
        self.assertEqual(both.said(), [("two", ("a",), 2), ("one", ("a",), 1)])
        self.assertEqual([both.table(edition=each) for each in ("one", "two", None)], [[("a",), ("b",)], [("a",)], [("a",), ("b",)]])
        self.assertEqual(fell(self, both.load, ("b",), edition="two"), ("module", ""))
        self.assertEqual(fell(self, both.load, ("c",)), ("module", ""))

    def test_each_edition_has_its_own_records(self):
        both = hall({"a": plain()}, {})
        both.load(("a",))
        both.put("home", ("b",), "plain", (), edition="one")
        both.put("home", ("b",), "plain", (), edition="two")
        both.load(("b",), edition="two")
        self.assertEqual(fell(self, both.load, ("b",)), ("module", ""))
        both.put("home", ("c",), "plain", (), edition="two")
        self.assertEqual(fell(self, both.load, ("c",), edition="two"), ("module", ""))
        both.forget()
        both.load(("b",))
        both.load(("c",), edition="two")

    def test_rows_load_in_their_own_edition(self):
        rows = (use("o", "o"), take("o", "n"), ("lazy", ("o",), "l"), ("again", ("o",)), ("say", dot("l", "n")))
        both = hall({"m": plain(*rows), "o": plain(let("n", 1))}, {"m": plain(*rows), "o": plain(let("n", 2))})
        both.load(("m",), edition="two")
        both.load(("m",), edition="one")
        self.assertEqual(heard(both), [2, 1])

    def test_again_in_each_edition(self):
        both = hall({"a": plain(tell(1))}, {"a": plain(tell(2))})
        both.load(("a",), edition="two")
        self.assertEqual(fell(self, both.again, ("a",)), ("module", ""))
        both.again(("a",), edition="two")
        self.assertEqual(heard(both), [2, 2])

    def test_a_shelf_that_stands_in_two_editions_is_two_shelves(self):
        same = shelf({"a": plain(tell(1))})
        both = World({"one": same, "two": same})
        both.put("home", ("a",), "plain", (tell(2),), edition="two")
        both.load(("a",))
        both.load(("a",), edition="two")
        self.assertEqual(heard(both), [1, 2])

    def test_the_numbers_of_defs_and_boxes_are_those_of_the_world(self):
        both = hall({"a": plain(("def", "f", (), ()))}, {"a": plain(("box", "b", ()))})
        both.load(("a",), edition="two")
        both.load(("a",))
        self.assertEqual(both.value(("a",), "f"), ("def", ("a",), "f", 1))
        self.assertEqual(both.value(("a",), "b", edition="two"), ("box", ("a",), "b", 0))


class Far(unittest.TestCase):
    def fell_far(self, module, row=FAR, **more):
        return fell(self, hall({"m": plain(row), "o": plain(let("x", 9))}, {"o": module, **more}).load, ("m",))

    def test_a_number(self):
        both = hall({"m": plain(FAR, say("y")), "o": plain(let("x", 9))}, {"o": plain(let("x", 4), tell(7))})
        both.load(("m",))
        self.assertEqual(both.said(), [("two", ("o",), 7), ("one", ("m",), 4)])
        self.assertEqual((both.table(), both.table(edition="two")), ([("m",)], [("o",)]))

    def test_a_module_that_is_loaded_already_and_parents(self):
        row = ("far", "one", ("p", "x"), "n", "y")
        both = hall({"p": package(tell(1)), "p.x": plain(let("n", 3), tell(2))}, {"m": plain(row, row, say("y"))})
        both.load(("m",), edition="two")
        self.assertEqual(heard(both), [1, 2, 3])
        self.assertEqual(both.table(edition="one"), [("p",), ("p", "x")])

    def test_everything_else_is_mixed(self):
        for rows in (
            (("def", "x", (), ()),), (("box", "x", ()),), (use("k", "x"),), (("lazy", ("k",), "x"),), (use("o", "x"),),
        ):
            self.assertEqual(self.fell_far(plain(*rows), k=plain()), ("mixed", "m"))

    def test_nothing_is_bound_if_it_is_mixed(self):
        both = hall({"m": plain(let("y", 5), ("try", (FAR,), (say("y"),)))}, {"o": plain(("def", "x", (), ()))})
        both.load(("m",))
        self.assertEqual(heard(both), [5])

    def test_a_lazy_name_is_loaded_in_its_own_edition(self):
        both = hall({"m": plain(("try", (FAR,), (tell(1),))), "k": plain(tell(2))}, {"o": plain(("lazy", ("k",), "x")), "k": plain(tell(3))})
        both.load(("m",))
        self.assertEqual(both.said(), [("two", ("k",), 3), ("one", ("m",), 1)])
        self.assertEqual(both.value(("o",), "x", edition="two"), ("module", ("k",)))
        self.assertEqual(self.fell_far(plain(("lazy", ("none",), "x"))), ("module", "m"))

    def test_the_rules_of_a_dot(self):
        self.assertEqual(self.fell_far(plain(let("z"))), ("dot", "m"))
        self.assertEqual(self.fell_far(package(let("z")), **{"o.x": plain()}), ("dot", "m"))
        self.assertEqual(self.fell_far(plain(let("x"), ("hide", ("x",)))), ("hidden", "m"))
        self.assertEqual(self.fell_far(plain(("hide", ("x",)))), ("hidden", "m"))

    def test_a_module_of_the_same_path_is_another_module(self):
        both = hall({"o": plain(FAR, ("hide", ("x",)))}, {"o": plain(let("x"), ("hide", ("x",)))})
        self.assertEqual(fell(self, both.load, ("o",)), ("hidden", "o"))

    def test_an_edition_that_is_no_other_one(self):
        for t in ("one", "three", "o", "home"):
            both = hall({"m": plain(("far", t, ("o",), "x", "y")), "o": plain(let("x"), tell(1))}, {"o": plain(let("x"), tell(2))})
            self.assertEqual(fell(self, both.load, ("m",)), ("module", "m"))
            self.assertEqual((heard(both), both.table(), both.table(edition="two")), ([], [], []))

    def test_a_path_that_is_not_found_or_fails(self):
        self.assertEqual(self.fell_far(plain(), row=("far", "two", ("none",), "x", "y")), ("module", "m"))
        self.assertEqual(self.fell_far(plain(), row=("far", "two", ("o", "n"), "x", "y")), ("module", "m"))
        self.assertEqual(self.fell_far(plain(let("x"), say("missing"))), ("name", "o"))

    def test_in_a_def_a_box_and_with_top(self):
        rows = (("def", "f", (), (FAR, ("give", name("y")))), ("say", call("f")), ("box", "b", (FAR,)), ("say", dot("b", "y")))
        rows += (("def", "g", (), (("top", ("y",)), FAR)), ("say", call("g")), say("y"))
        both = hall({"m": plain(*rows)}, {"o": plain(let("x", 6))})
        both.load(("m",))
        self.assertEqual(heard(both), [6, 6, 0, 6])

    def test_a_ring_across_editions(self):
        back = ("far", "one", ("m",), "z", "z")
        both = hall({"m": plain(let("z", 3), FAR, say("y"))}, {"o": plain(back, ("let", "x", ("plus", name("z"), ONE)))})
        both.load(("m",))
        self.assertEqual(heard(both), [4])
        both = hall({"m": plain(FAR, let("z", 3))}, {"o": plain(back, let("x"))})
        self.assertEqual(fell(self, both.load, ("m",)), ("half", "o"))
        self.assertEqual((both.table(), both.table(edition="two")), ([], []))

    def test_three_editions(self):
        many = hall(
            {"a": plain(("far", "two", ("a",), "x", "x"), say("x"))},
            {"a": plain(("far", "three", ("a",), "x", "x"), say("x"))},
            {"a": plain(("far", "one", ("b",), "x", "x"), say("x"))},
        )
        many.put("home", ("b",), "plain", (let("x", 8),))
        many.load(("a",))
        self.assertEqual(many.said(), [("three", ("a",), 8), ("two", ("a",), 8), ("one", ("a",), 8)])
        self.assertEqual([many.table(edition=each) for each in many.editions()], [[("a",), ("b",)], [("a",)], [("a",)]])

    def test_what_remains_behind_a_failure_in_another_edition(self):
        both = hall({"m": plain(FAR)}, {"o": plain(use("k", "k"), say("missing")), "k": plain()})
        self.assertEqual(fell(self, both.load, ("m",)), ("name", "o"))
        self.assertEqual((both.table(), both.table(edition="two")), ([], [("k",)]))

    def test_rows_and_runs_of_other_editions_count(self):
        both = hall({"m": plain(FAR)}, {"o": plain(let("x"), let("z"))}, most=2)
        self.assertEqual(fell(self, both.load, ("m",)), ("spent", "o"))
        count = ("def", "f", ("n",), (("when", name("n"), (("give", call("f", ("plus", name("n"), num(-1)))),), ()),))
        for n, deep in ((27, False), (28, True)):
            both = hall({"m": plain(FAR)}, {"o": plain(count, ("let", "x", call("f", num(n))))})
            if deep:
                self.assertEqual(fell(self, both.load, ("m",)), ("deep", "o"))
            else:
                both.load(("m",))


if __name__ == "__main__":
    unittest.main()

"""Points 9 to 12: where a world finds a path, what it records, loading, use, from, from-all and again."""

import unittest

from modulehall.errors import Fell
from tests.kit import (
    ONE, call, dot, fell, fell_load, heard, let, loaded, name, num, package, path, plain, put, said_of, say, take, take_all,
    tell, use, wide, world,
)

FAIL = ("say", name("missing"))


def paths(*dotted):
    return [path(each) for each in dotted]


class Finding(unittest.TestCase):
    def test_one_name_is_searched_in_all_places_in_order(self):
        hall = loaded({}, "a", "b", mid={"a": plain(tell(1)), "b": plain(tell(2))}, last={"a": plain(tell(3))})
        self.assertEqual(heard(hall), [1, 2])

    def test_below_a_package_only_its_place_is_searched(self):
        hall = world({"p.x": plain()}, mid={"p": package(), "p.y": plain(tell(1))}, last={"p.y": plain(tell(2)), "p.z": plain()})
        self.assertEqual(fell(self, hall.load, ("p", "x")), ("module", ""))
        self.assertEqual(fell(self, hall.load, ("p", "z")), ("module", ""))
        hall.load(("p", "y"))
        self.assertEqual((heard(hall), hall.table()), ([1], paths("p", "p.y")))

    def test_below_a_wide_module_all_places_are_searched_in_order(self):
        hall = loaded(
            {"p.x": plain(tell(1))}, "p.x", "p.y", "p.z", mid={"p": wide(), "p.x": plain(tell(2)), "p.y": plain(tell(3))},
            last={"p.y": plain(tell(4)), "p.z": plain(tell(5))},
        )
        self.assertEqual(heard(hall), [1, 3, 5])

    def test_below_a_plain_module_nothing_is_found(self):
        hall = world({"p": plain(tell(1)), "p.x": plain()}, last={"p": package(), "p.x": plain()})
        self.assertEqual(fell(self, hall.load, ("p", "x")), ("module", ""))
        self.assertEqual((heard(hall), hall.table()), ([1], [("p",)]))

    def test_the_sort_and_the_place_of_each_parent(self):
        modules = {"p": wide(), "p.x.y": plain(tell(1))}
        hall = loaded(modules, "p.x.y", last={"p": package(), "p.x": package(), "p.x.y": plain(tell(2))})
        self.assertEqual(heard(hall), [2])


class Records(unittest.TestCase):
    def test_a_module_that_is_put_behind_a_look_is_not_found(self):
        hall = loaded({"a": plain()}, "a")
        hall.put("home", ("b",), "plain", ())
        self.assertEqual(fell(self, hall.load, ("b",)), ("module", ""))
        hall.forget()
        hall.load(("b",))
        self.assertEqual(hall.table(), paths("a", "b"))

    def test_a_look_that_finds_nothing_records_too(self):
        hall = world({"a": plain()}, last={})
        self.assertEqual(fell(self, hall.load, ("b",)), ("module", ""))
        for place in ("home", "last"):
            hall.put(place, ("b",), "plain", (tell(1),))
            self.assertEqual(fell(self, hall.load, ("b",)), ("module", ""))
        hall.forget()
        hall.load(("b",))

    def test_a_module_that_is_put_before_the_first_look_is_found(self):
        hall = world({})
        hall.put("home", ("b",), "plain", (tell(1),))
        hall.load(("b",))
        self.assertEqual(heard(hall), [1])

    def test_a_place_that_was_not_searched_yet_is_not_recorded(self):
        hall = loaded({"a": plain()}, "a", last={})
        hall.put("last", ("b",), "plain", (tell(1),))
        hall.load(("b",))
        hall.put("last", ("c",), "plain", ())
        self.assertEqual(fell(self, hall.load, ("c",)), ("module", ""))
        self.assertEqual(heard(hall), [1])

    def test_a_record_is_for_one_parent_alone(self):
        hall = loaded({"p": package(), "q": package(), "p.x": plain()}, "p.x")
        hall.put("home", ("q", "x"), "plain", ())
        hall.put("home", ("p", "y"), "plain", ())
        hall.load(("q", "x"))
        self.assertEqual(fell(self, hall.load, ("p", "y")), ("module", ""))
        self.assertEqual(fell(self, hall.load, ("r",)), ("module", ""))

    def test_paths_of_one_name_and_paths_below_them_are_recorded_apart(self):
        hall = loaded({"p": package()}, "p")
        hall.put("home", ("p", "x"), "package", ())
        hall.load(("p", "x"))
        hall.put("home", ("p", "x", "y"), "plain", ())
        hall.load(("p", "x", "y"))
        self.assertEqual(hall.table(), paths("p", "p.x", "p.x.y"))

    def test_a_recorded_module_that_no_longer_exists_is_searched_in_the_next_place(self):
        hall = loaded({"a": plain(), "b": plain(tell(1))}, "a", last={"b": plain(tell(2))})
        hall.cut("home", ("b",))
        hall.load(("b",))
        self.assertEqual(heard(hall), [2])

    def test_a_recorded_module_that_no_longer_exists_in_any_place(self):
        hall = loaded({"a": plain(), "b": plain()}, "a")
        hall.cut("home", ("b",))
        self.assertEqual(fell(self, hall.load, ("b",)), ("module", ""))
        hall.put("home", ("b",), "plain", (tell(3),))
        hall.load(("b",))
        self.assertEqual(heard(hall), [3])

    def test_a_module_put_into_an_earlier_place_is_not_found_there(self):
        hall = loaded({"a": plain()}, "a", last={"b": plain(tell(2))})
        hall.put("home", ("b",), "plain", (tell(1),))
        hall.load(("b",))
        self.assertEqual(heard(hall), [2])

    def test_rows_and_sorts_are_those_that_exist_when_the_rows_are_run(self):
        hall = loaded({"a": plain(), "b": plain(tell(1)), "b.x": plain(tell(3))}, "a")
        hall.put("home", ("b",), "package", (tell(2),))
        hall.load(("b", "x"))
        self.assertEqual(heard(hall), [2, 3])

    def test_the_sort_of_a_parent_in_the_table_is_that_of_its_last_run(self):
        hall = loaded({"p": package(), "p.x": plain(tell(1))}, "p")
        hall.put("home", ("p",), "plain", ())
        hall.load(("p", "x"))
        self.assertEqual(heard(hall), [1])
        hall = loaded({"p": plain(), "p.x": plain(tell(1))}, "p")
        hall.put("home", ("p",), "package", ())
        self.assertEqual(fell(self, hall.load, ("p", "x")), ("module", ""))
        hall.again(("p",))
        hall.load(("p", "x"))
        self.assertEqual(heard(hall), [1])

    def test_the_sort_of_a_parent_changes_with_again(self):
        hall = loaded({"p": package(), "p.x": plain(), "p.y": plain()}, "p.x")
        hall.put("home", ("p",), "plain", ())
        hall.again(("p",))
        self.assertEqual(fell(self, hall.load, ("p", "y")), ("module", ""))
        hall.load(("p", "x"))
        self.assertEqual(fell(self, hall.again, ("p", "x")), ("module", ""))

    def test_the_place_of_a_parent_in_the_table_is_that_of_its_last_run(self):
        hall = loaded({"p": package(), "p.x": plain(tell(1))}, "p", last={"p": package(), "p.x": plain(tell(2)), "p.y": plain()})
        hall.cut("home", ("p",))
        hall.load(("p", "x"))
        self.assertEqual(fell(self, hall.load, ("p", "y")), ("module", ""))
        hall.again(("p",))
        hall.load(("p", "y"))
        hall.again(("p", "x"))
        self.assertEqual(heard(hall), [1, 2])

    def test_a_parent_that_is_not_in_the_table_is_found_anew(self):
        # The parent fails, so that only its child stays in the table and is loaded again below a parent that is found.
        hall = world({"p": package(use("p.x", "x"), FAIL), "p.x": plain(tell(1))}, last={"p": package(), "p.x": plain(tell(2))})
        self.assertEqual(fell(self, hall.load, ("p",)), ("name", "p"))
        hall.again(("p", "x"))
        hall.cut("home", ("p",))
        hall.again(("p", "x"))
        hall.put("last", ("p",), "plain", ())
        self.assertEqual(fell(self, hall.again, ("p", "x")), ("module", ""))
        hall.put("last", ("p",), "wide", ())
        hall.again(("p", "x"))
        hall.cut("last", ("p",))
        self.assertEqual(fell(self, hall.again, ("p", "x")), ("module", ""))
        self.assertEqual(heard(hall), [1, 1, 2, 1])
        self.assertEqual(hall.table(), [("p", "x")])

    def test_a_look_for_a_parent_is_recorded_too(self):
        hall = world({"p": package(use("p.x", "x"), FAIL), "p.x": plain()})
        self.assertEqual(fell(self, hall.load, ("p",)), ("name", "p"))
        hall.forget()
        hall.again(("p", "x"))
        hall.put("home", ("q",), "plain", ())
        self.assertEqual(fell(self, hall.load, ("q",)), ("module", ""))

    def test_a_plain_parent_is_not_looked_below(self):
        hall = world({"p": plain()})
        self.assertEqual(fell(self, hall.load, ("p", "x")), ("module", ""))
        hall.put("home", ("p", "x"), "plain", ())
        hall.put("home", ("p",), "package", ())
        hall.again(("p",))
        hall.load(("p", "x"))

    def test_the_names_that_a_from_misses_are_looked_for_and_recorded(self):
        hall = loaded({"p": package(), "m": plain(("try", (take("p", "x"),), ()))}, "m")
        hall.put("home", ("p", "x"), "plain", ())
        self.assertEqual(fell(self, hall.load, ("p", "x")), ("module", ""))


class Loading(unittest.TestCase):
    def test_a_module_in_the_table_is_not_run_again(self):
        hall = loaded({"a": plain(tell(1))}, "a", "a")
        self.assertIsNone(hall.load(("a",)))
        self.assertEqual(heard(hall), [1])
        self.assertEqual(said_of(use("o", "x"), use("o", "y"), take("o", "n"), o=plain(tell(1), let("n"))), [1])

    def test_parents_are_loaded_first(self):
        modules = {"a": package(tell(1)), "a.b": wide(tell(2)), "a.b.c": package(tell(3)), "a.b.c.d": plain(tell(4))}
        hall = loaded(modules, "a.b.c.d")
        self.assertEqual((heard(hall), hall.table()), ([1, 2, 3, 4], paths("a", "a.b", "a.b.c", "a.b.c.d")))

    def test_parents_of_a_path_in_the_table_are_not_loaded(self):
        hall = world({"p": package(use("p.x", "x"), tell(1), FAIL), "p.x": plain(tell(2))})
        self.assertEqual(fell(self, hall.load, ("p",)), ("name", "p"))
        hall.load(("p", "x"))
        self.assertEqual((heard(hall), hall.table()), ([2, 1], [("p", "x")]))

    def test_a_path_without_its_parent(self):
        hall = world({"p.x": plain(tell(1))})
        self.assertEqual(fell(self, hall.load, ("p", "x")), ("module", ""))
        modules = {"m": plain(use("p.x", "x")), "p.x": plain(tell(1))}
        self.assertEqual(fell_load(self, modules, "m"), ("module", "m"))

    def test_the_table_is_checked_again_behind_the_parent(self):
        hall = loaded({"p": package(use("p.x", "x"), tell(1)), "p.x": plain(tell(2))}, "p.x")
        self.assertEqual((heard(hall), hall.table()), ([2, 1], paths("p", "p.x")))

    def test_each_parent_is_checked_again_too(self):
        # The load of a.b fails inside that of a, but a.b.c stays; then a.b is loaded before a.b.c is used.
        modules = {
            "a": package(("try", (use("a.b", "b"),), ()), let("ok")),
            "a.b": package(tell(1), use("a.b.c", "c"), take("a", "ok")),
            "a.b.c": plain(tell(2)),
        }
        hall = loaded(modules, "a.b.c")
        self.assertEqual((heard(hall), hall.table()), ([1, 2, 1], paths("a", "a.b.c", "a.b")))

    def test_the_parent_has_a_child_that_is_whole(self):
        hall = loaded({"p": package(let("y"), let("x", 5)), "p.x": plain()}, "p")
        self.assertEqual((hall.names(("p",)), hall.value(("p",), "x")), (["y", "x"], 5))
        hall.load(("p", "x"))
        self.assertEqual((hall.names(("p",)), hall.value(("p",), "x")), (["y", "x"], ("module", ("p", "x"))))

    def test_the_parent_does_not_have_a_child_that_is_half_loaded(self):
        modules = {"p": package(), "p.x": plain(use("p", "p"), ("say", dot("p", "x")))}
        self.assertEqual(fell_load(self, modules, "p.x"), ("dot", "p.x"))
        modules["p.x"] = plain(take("p", "x"), let("n", 2), ("say", dot("x", "n")))
        hall = loaded(modules, "p.x")
        self.assertEqual((heard(hall), hall.names(("p",))), ([2], ["x"]))

    def test_a_child_of_a_half_loaded_parent(self):
        modules = {"p": package(use("p.x", "y"), ("say", dot("x", "n"))), "p.x": plain(let("n", 3), use("p", "p"), say("p"))}
        hall = loaded(modules, "p")
        self.assertEqual(heard(hall), [("module", ("p",)), 3])
        self.assertEqual(hall.names(("p",)), ["x", "y"])

    def test_a_parent_that_is_not_in_the_table_is_not_bound(self):
        modules = {"p": package(use("p.x", "x"), FAIL), "p.x": plain(("def", "f", (), ()))}
        hall = world(modules)
        self.assertEqual(fell(self, hall.load, ("p",)), ("name", "p"))
        put(hall, "p", package())
        hall.load(("p",))
        self.assertEqual((hall.names(("p",)), hall.table()), ([], paths("p.x", "p")))
        # The child is whole already, so nothing binds it.
        hall.load(("p", "x"))
        self.assertEqual(hall.names(("p",)), [])

    def test_the_parent_is_bound_even_if_it_hides_the_name(self):
        self.assertEqual(loaded({"p": package(("hide", ("x",))), "p.x": plain()}, "p.x").names(("p",)), ["x"])

    def test_a_ring_of_two(self):
        modules = {"a": plain(let("x", 1), use("b", "b"), let("y", 2)), "b": plain(use("a", "a"), ("say", dot("a", "x")))}
        hall = loaded(modules, "a")
        self.assertEqual((heard(hall), hall.table()), ([1], paths("a", "b")))
        hall = loaded(modules, "b")
        self.assertEqual((heard(hall), hall.table()), ([1], paths("b", "a")))

    def test_a_half_loaded_module_of_a_ring_is_seen_as_it_is(self):
        modules = {"a": plain(let("x", 1), take("b", "z"), let("y", 2)), "b": plain(take("a", "y"), let("z", 3))}
        self.assertEqual(fell_load(self, modules, "a"), ("half", "b"))
        self.assertEqual(fell_load(self, modules, "b"), ("half", "a"))
        modules["b"] = plain(take_all("a"), let("z", 3))
        hall = loaded(modules, "a")
        self.assertEqual([hall.names((x,)) for x in "ab"], [["x", "z", "y"], ["x", "z"]])

    def test_a_ring_of_three(self):
        modules = {
            "a": plain(let("x", 1), use("b", "b"), ("say", dot("b", "c", "x"))), "b": plain(use("c", "c"), tell(2)),
            "c": plain(use("a", "a"), ("let", "x", dot("a", "x")), tell(3)),
        }
        hall = loaded(modules, "a")
        self.assertEqual((heard(hall), hall.table()), ([3, 2, 1], paths("a", "b", "c")))
        self.assertEqual(fell_load(self, modules, "b"), ("half", "a"))
        self.assertEqual(heard(loaded({**modules, "a": plain(let("x", 1), use("b", "b"))}, "c")), [2, 3])

    def test_a_module_that_uses_itself(self):
        self.assertEqual(said_of(let("x", 4), use("m", "s"), ("say", dot("s", "x")), ("set", name("s"), "x", num(5)), say("x")), [4, 5])

    def test_a_failure_in_the_middle_of_a_load(self):
        modules = {
            "a": package(tell(1), use("b", "b"), use("a.x", "x"), ("set", name("b"), "n", num(9)), let("k"), use("c", "c"), tell(2)),
            "a.x": plain(tell(3)), "b": plain(use("a", "back"), let("n", 5)), "c": plain(tell(4), use("d", "d"), FAIL),
            "d": plain(),
        }
        hall = world(modules)
        self.assertEqual(fell(self, hall.load, ("a",)), ("name", "c"))
        self.assertEqual(hall.table(), paths("b", "a.x", "d"))
        self.assertEqual((hall.value(("b",), "n"), hall.value(("b",), "back")), (9, ("module", ("a",))))
        put(hall, "c", plain())
        hall.load(("a",))
        self.assertEqual((heard(hall), hall.table()), ([1, 3, 4, 1, 2], paths("b", "a.x", "d", "a", "c")))
        # What b has is the module of the first load, which has names of its own.
        self.assertEqual(hall.names(("a",)), ["b", "x", "k", "c"])
        put(hall, "e", plain(use("b", "b"), ("say", dot("b", "back", "k")), ("say", dot("b", "back", "c"))))
        self.assertEqual(fell(self, hall.load, ("e",)), ("half", "e"))
        self.assertEqual(heard(hall)[-1], 1)

    def test_a_failure_that_is_caught(self):
        modules = {"a": plain(("try", (use("b", "b"),), (tell(1),)), let("z")), "b": plain(use("c", "c"), FAIL), "c": plain()}
        hall = loaded(modules, "a")
        self.assertEqual((heard(hall), hall.table(), hall.names(("a",))), ([1], paths("a", "c"), ["z"]))

    def test_the_parent_of_a_module_that_fails_remains(self):
        hall = world({"p": package(let("x")), "p.x": plain(FAIL)})
        self.assertEqual(fell(self, hall.load, ("p", "x")), ("name", "p.x"))
        self.assertEqual((hall.table(), hall.value(("p",), "x")), ([("p",)], 1))

    def test_a_module_is_entered_before_its_rows_and_anew_behind_a_failure(self):
        hall = world({"a": plain(use("b", "b"), FAIL), "b": plain()})
        self.assertEqual(fell(self, hall.load, ("a",)), ("name", "a"))
        put(hall, "a", plain())
        hall.load(("a",))
        self.assertEqual(hall.table(), paths("b", "a"))


class Use(unittest.TestCase):
    modules = {"a": package(let("n", 1)), "a.b": package(let("n", 2)), "a.b.c": plain(let("n", 3))}

    def test_with_a_name(self):
        hall = loaded({"m": plain(use("a.b.c", "x")), **self.modules}, "m")
        self.assertEqual((hall.names(("m",)), hall.value(("m",), "x")), (["x"], ("module", ("a", "b", "c"))))

    def test_without_a_name(self):
        hall = loaded({"m": plain(use("a.b.c"), ("say", dot("a", "b", "c", "n"))), **self.modules}, "m")
        self.assertEqual((hall.names(("m",)), hall.value(("m",), "a"), heard(hall)), (["a"], ("module", ("a",)), [3]))
        hall = loaded({"m": plain(use("a")), **self.modules}, "m")
        self.assertEqual((hall.value(("m",), "a"), hall.table()), (("module", ("a",)), paths("m", "a")))

    def test_without_a_name_the_first_module_is_loaded_behind_the_path(self):
        modules = {"p": package(tell(1), use("p.x", "x"), FAIL), "p.x": plain(tell(2))}
        hall = world({**modules, "m": plain(use("p.x")), "o": plain(use("p.x", "x"))})
        self.assertEqual(fell(self, hall.load, ("p",)), ("name", "p"))
        self.assertEqual(fell(self, hall.load, ("m",)), ("name", "p"))
        hall.load(("o",))
        put(hall, "p", package(tell(3)))
        hall.load(("m",))
        self.assertEqual((heard(hall), hall.value(("m",), "p")), ([1, 2, 1, 3], ("module", ("p",))))

    def test_nothing_is_bound_if_the_load_fails(self):
        hall = world({"m": plain(let("a", 7), ("try", (use("a.x"),), ()), ("try", (use("none", "a"),), ()), say("a")), **self.modules})
        hall.load(("m",))
        self.assertEqual(heard(hall), [7])


class From(unittest.TestCase):
    tree = {
        "a": package(let("n", 1)), "a.b": wide(let("n", 2)), "a.b.c": package(let("n", 3)), "a.b.c.d": plain(let("n", 4)),
        "a.b.c.e": package(let("n", 5)), "n": plain(let("n", 6)), "a.k": plain(let("n", 7)), "o": package(let("n", 8)),
    }

    def taken(self, dotted, row, sort="plain"):
        """What a from that stands in a module of a path takes as n, or its failure."""
        hall = world({**self.tree, dotted: (sort, (row,))})
        try:
            hall.load(path(dotted))
        except Fell as failure:
            return failure.word, ".".join(failure.path)
        return hall.value(path(dotted), "y")

    def test_without_dots(self):
        for dotted, n in (("a", 1), ("a.b", 2), ("a.b.c", 3), ("a.b.c.d", 4)):
            self.assertEqual(self.taken("m", ("from", 0, path(dotted), (("n", "y"),))), n)

    def test_with_dots(self):
        pair = (("n", "y"),)
        for dotted, sort, dots, below, result in (
            ("m", "plain", 1, ("a",), 1), ("m", "plain", 1, ("a", "b"), 2), ("m", "plain", 1, (), ("module", "m")),
            ("m", "plain", 2, ("a",), ("module", "m")), ("m", "plain", 3, ("a",), ("module", "m")),
            ("m", "package", 1, ("a",), ("module", "m")), ("m", "package", 2, ("a",), 1),
            ("m", "package", 2, (), ("module", "m")), ("m", "package", 3, ("a",), ("module", "m")),
            ("m", "wide", 2, ("a",), 1), ("m", "wide", 1, ("a",), ("module", "m")),
            ("a.m", "plain", 1, (), 1), ("a.m", "plain", 1, ("b",), 2), ("a.m", "plain", 2, ("o",), 8),
            ("a.m", "plain", 2, (), ("module", "a.m")), ("a.m", "plain", 3, ("o",), ("module", "a.m")),
            ("a.m", "package", 2, (), 1), ("a.m", "package", 3, ("o",), 8), ("a.m", "wide", 2, ("b", "c"), 3),
            ("a.b.m", "plain", 1, (), 2), ("a.b.m", "plain", 2, (), 1), ("a.b.m", "plain", 3, ("n",), 6),
            ("a.b.m", "package", 2, (), 2), ("a.b.m", "package", 3, (), 1), ("a.b.m", "wide", 3, ("k",), 7),
            ("a.b.c.m", "plain", 1, (), 3), ("a.b.c.m", "plain", 2, (), 2), ("a.b.c.m", "plain", 3, (), 1),
            ("a.b.c.m", "package", 2, ("d",), 4), ("a.b.c.m", "package", 3, (), 2), ("a.b.c.m", "plain", 1, ("d",), 4),
        ):
            with self.subTest(dotted=dotted, sort=sort, dots=dots, below=below):
                self.assertEqual(self.taken(dotted, ("from", dots, below, pair), sort), result)

    def test_with_too_many_names(self):
        pair = (("n", "y"),)
        self.assertEqual(self.taken("a.b.m", ("from", 1, ("c", "d"), pair)), 4)
        self.assertEqual(self.taken("a.b.m", ("from", 1, ("c", "d", "e"), pair)), ("module", "a.b.m"))
        self.assertEqual(self.taken("a.b.m", ("from", 1, ("c", "d", "e", "f"), pair)), ("module", "a.b.m"))
        self.assertEqual(self.taken("a.b.c.m", ("from", 1, ("c",), pair), "package"), ("module", "a.b.c.m"))

    def test_dots_count_from_the_module_of_the_def(self):
        modules = {**self.tree, "a.m": plain(("def", "f", (), (take("", "n", dots=1), ("give", name("n"))))), "p": package()}
        modules["p.m"] = plain(("from", 0, ("a", "m"), (("f", "f"),)), ("say", call("f")))
        self.assertEqual(heard(loaded(modules, "p.m")), [1])

    def test_dots_of_a_module_that_was_run_again_with_another_sort(self):
        hall = loaded({"p": package(("def", "f", (), (("from", 1, (), (("n", "n"),)), ("give", name("n"))))), "p.n": plain()}, "p")
        put(hall, "m", plain(take("p", "f"), ("say", call("f"))))
        hall.load(("m",))
        put(hall, "p", plain())
        hall.again(("p",))
        put(hall, "o", plain(take("p", "f"), ("say", call("f"))))
        self.assertEqual(fell(self, hall.load, ("o",)), ("module", "p"))

    def test_pairs_in_order(self):
        rows = (("from", 0, ("o",), (("a", "b"), ("b", "a"), ("a", "c"), ("b", "c"))), say("a"), say("b"), say("c"))
        self.assertEqual(said_of(*rows, o=plain(let("a", 1), let("b", 2))), [2, 1, 2])

    def test_pairs_that_are_taken_before_one_that_fails_remain(self):
        rows = (("try", (take("o", "a", "none", "b"),), ()), say("a"), say("b"))
        hall = world({"m": plain(*rows), "o": plain(let("a", 1), let("b", 2))})
        self.assertEqual(fell(self, hall.load, ("m",)), ("name", "m"))
        self.assertEqual(heard(hall), [1])

    def test_a_module_below(self):
        modules = {"p": package(let("x", 1)), "p.x": plain(tell(5)), "p.y": plain(tell(6)), "q": wide(), "q.x": plain(tell(7))}
        hall = loaded({**modules, "m": plain(take("p", "x", "y"), say("x"), say("y"), take("q", "x"), say("x"))}, "m")
        self.assertEqual(heard(hall), [6, 1, ("module", ("p", "y")), 7, ("module", ("q", "x"))])

    def test_a_module_below_a_plain_one_or_that_is_not_found(self):
        modules = {"p": plain(), "p.x": plain(), "q": package(), "r": package(take("", "x", dots=1))}
        for dotted, word in (("p", "dot"), ("q", "dot")):
            self.assertEqual(fell_load(self, {**modules, "m": plain(take(dotted, "x"))}, "m"), (word, "m"))
        self.assertEqual(fell_load(self, modules, "r"), ("half", "r"))

    def test_a_module_below_of_four_names(self):
        self.assertEqual(self.taken("m", ("from", 0, ("a", "b", "c", "e"), (("x", "y"),))), ("dot", "m"))

    def test_a_module_below_that_is_in_the_table_half_loaded(self):
        modules = {"p": package(), "p.x": plain(let("n", 2), use("m", "m")), "m": plain(take("p", "x"), ("say", dot("x", "n")))}
        self.assertEqual(heard(loaded(modules, "p.x")), [2])

    def test_a_module_below_that_fails_with_module_fails_with_module(self):
        modules = {"p": package(), "p.x": plain(use("none", "n")), "m": plain(take("p", "x"))}
        self.assertEqual(fell_load(self, modules, "m"), ("module", "p.x"))

    def test_a_name_that_was_dropped_is_taken_from_below_again(self):
        modules = {"p": package(), "p.x": plain(), "m": plain(take("p", "x"), say("x"))}
        hall = loaded(modules, "p.x")
        put(hall, "p", package(("drop", "x")))
        hall.again(("p",))
        hall.load(("m",))
        self.assertEqual((heard(hall), hall.names(("p",))), ([("module", ("p", "x"))], []))


class FromAll(unittest.TestCase):
    def names(self, module, **others):
        modules = {"m": plain(take_all("o")), "o": module, **others}
        return loaded({key.replace("_", "."): modules[key] for key in modules}, "m").names(("m",))

    def test_all_names_in_the_order_in_which_they_came_into_existence(self):
        self.assertEqual(self.names(plain(let("b"), let("a"), let("c"), let("b"), ("drop", "a"), let("a"))), ["b", "c", "a"])

    def test_modules_below_only_if_the_module_has_them(self):
        self.assertEqual(self.names(package(let("n")), o_x=plain()), ["n"])
        self.assertEqual(self.names(package(use("o.x", "y")), o_x=plain()), ["x", "y"])

    def test_a_show(self):
        self.assertEqual(self.names(plain(let("a"), let("b"), let("c"), ("show", ("c", "a")))), ["c", "a"])

    def test_a_show_of_modules_below(self):
        self.assertEqual(self.names(package(let("a"), ("show", ("x", "a"))), o_x=plain()), ["x", "a"])
        hall = loaded({"m": plain(take_all("o"), say("x")), "o": wide(("show", ("x",))), "o.x": plain(tell(1))}, "m")
        self.assertEqual(heard(hall), [1, ("module", ("o", "x"))])

    def test_a_show_of_what_does_not_exist(self):
        for module in (plain(let("a"), ("show", ("a", "x"))), package(let("a"), ("show", ("a", "x")))):
            hall = world({"m": plain(("try", (take_all("o"),), (tell(1),)), say("a"), take_all("o")), "o": module})
            self.assertEqual(fell(self, hall.load, ("m",)), ("dot", "m"))
            self.assertEqual(heard(hall), [1, 1])
        modules = {"m": plain(take_all("o")), "o": plain(let("a"), use("m", "m"), ("show", ("x",)))}
        self.assertEqual(fell_load(self, modules, "o"), ("half", "m"))

    def test_hidden_names(self):
        self.assertEqual(self.names(plain(let("a"), let("b"), let("c"), ("hide", ("c", "a")))), ["b"])
        self.assertEqual(self.names(plain(let("a"), let("b"), let("c"), ("hide", ("c",)), ("show", ("b",)))), ["b"])

    def test_a_half_loaded_module(self):
        modules = {"m": plain(take_all("o")), "o": plain(let("a"), use("m", "m"), let("b"))}
        self.assertEqual(loaded(modules, "o").names(("m",)), ["a"])

    def test_a_module_itself(self):
        hall = loaded({"m": plain(let("a", 3), let("b", 4), take_all("m"), take_all("m", dots=1)), "o": plain()}, "m")
        self.assertEqual((hall.names(("m",)), hall.value(("m",), "a")), (["a", "b"], 3))

    def test_with_dots_in_a_when_and_in_a_try(self):
        rows = (("when", ONE, (take_all("", dots=1),), ()), ("try", (take_all("k", dots=1),), ()))
        modules = {"p": package(let("a", 1)), "p.m": plain(*rows, say("a"), say("b")), "p.k": plain(let("b", 2))}
        self.assertEqual(heard(loaded(modules, "p.m")), [1, 2])

    def test_names_are_bound_anew(self):
        self.assertEqual(said_of(let("a", 1), take_all("o"), say("a"), o=plain(let("a", 2))), [2])


class Again(unittest.TestCase):
    def test_the_rows_that_exist_now_are_run_in_the_module(self):
        hall = loaded({"a": plain(let("x", 1), let("y", 2), tell(1)), "m": plain(use("a", "a"))}, "m")
        put(hall, "a", plain(let("z", 5), let("x", 4), say("y")))
        self.assertIsNone(hall.again(("a",)))
        self.assertEqual([hall.value(("a",), x) for x in hall.names(("a",))], [4, 2, 5])
        self.assertEqual((hall.names(("a",)), heard(hall), hall.table()), (["x", "y", "z"], [1, 2], paths("m", "a")))

    def test_as_a_row(self):
        rows = (use("o", "o"), ("again", ("o",)), ("def", "f", (), (("again", ("o",)),)), ("say", call("f")))
        self.assertEqual(said_of(*rows, o=plain(tell(5))), [5, 5, 5, 0])

    def test_a_longer_path_and_its_parent(self):
        hall = loaded({"p": package(tell(1)), "p.x": plain(tell(2))}, "p.x")
        put(hall, "p", package(let("x", 5)))
        hall.again(("p",))
        hall.again(("p", "x"))
        self.assertEqual((hall.value(("p",), "x"), heard(hall)), (5, [1, 2, 2]))

    def test_the_parent_is_not_loaded(self):
        hall = world({"p": package(use("p.x", "x"), tell(1), FAIL), "p.x": plain(tell(2))})
        self.assertEqual(fell(self, hall.load, ("p",)), ("name", "p"))
        hall.again(("p", "x"))
        self.assertEqual((heard(hall), hall.table()), ([2, 1, 2], [("p", "x")]))

    def test_a_module_that_is_not_in_the_table(self):
        hall = world({"a": plain(), "m": plain(("again", ("a",)))})
        self.assertEqual(fell(self, hall.again, ("a",)), ("module", ""))
        self.assertEqual(fell(self, hall.load, ("m",)), ("module", "m"))
        self.assertEqual(hall.table(), [])

    def test_a_module_that_is_half_loaded(self):
        self.assertEqual(fell_load(self, {"m": plain(("again", ("m",)))}, "m"), ("half", "m"))
        self.assertEqual(fell_load(self, {"m": plain(use("o", "o")), "o": plain(("again", ("m",)))}, "m"), ("half", "o"))

    def test_a_module_that_is_being_loaded_again_is_half_loaded(self):
        hall = loaded({"a": plain(let("x")), "m": plain(use("a", "a"))}, "m")
        put(hall, "a", plain(("try", (("again", ("a",)),), (tell(1),)), use("o", "o")))
        put(hall, "o", plain(take("a", "x"), ("try", (take("a", "y"),), (tell(2),)), take("a", "y")))
        self.assertEqual(fell(self, hall.again, ("a",)), ("half", "o"))
        self.assertEqual(heard(hall), [1, 2])
        put(hall, "o", plain(take("a", "y")))
        self.assertEqual(fell(self, hall.load, ("o",)), ("dot", "o"))

    def test_a_failure_in_the_rows(self):
        hall = loaded({"a": plain(let("x", 1), let("y", 2)), "p": package()}, "a")
        put(hall, "a", plain(let("x", 3), FAIL, let("y", 4)))
        self.assertEqual(fell(self, hall.again, ("a",)), ("name", "a"))
        self.assertEqual((hall.table(), hall.value(("a",), "x"), hall.value(("a",), "y")), ([("a",)], 3, 2))
        put(hall, "a", plain())
        hall.again(("a",))

    def test_a_failure_in_the_rows_that_is_caught(self):
        hall = loaded({"a": plain()}, "a")
        put(hall, "a", plain(FAIL))
        put(hall, "m", plain(("try", (("again", ("a",)),), (tell(1),)), ("try", (take("a", "x"),), (tell(2),)), take("a", "x")))
        self.assertEqual(fell(self, hall.load, ("m",)), ("dot", "m"))
        self.assertEqual((heard(hall), hall.table()), ([1, 2], [("a",)]))

    def test_a_module_that_is_cut(self):
        hall = loaded({"a": plain(let("x"), ("hide", ("x",)))}, "a")
        hall.cut("home", ("a",))
        self.assertEqual(fell(self, hall.again, ("a",)), ("module", ""))
        self.assertEqual((hall.names(("a",)), hall.table()), (["x"], [("a",)]))
        put(hall, "m", plain(take("a", "x")))
        self.assertEqual(fell(self, hall.load, ("m",)), ("hidden", "m"))

    def test_a_module_that_is_found_elsewhere(self):
        hall = loaded({"a": package(tell(1)), "a.x": plain(tell(3))}, "a", last={"a": package(tell(2)), "a.x": plain(tell(4))})
        hall.cut("home", ("a",))
        hall.again(("a",))
        hall.load(("a", "x"))
        self.assertEqual(heard(hall), [1, 2, 4])

    def test_records_hold_for_again_too(self):
        hall = loaded({}, "a", last={"a": plain(tell(1))})
        hall.put("home", ("a",), "plain", (tell(2),))
        hall.again(("a",))
        hall.forget()
        hall.again(("a",))
        self.assertEqual(heard(hall), [1, 1, 2])

    def test_defs_and_boxes_that_were_taken_before(self):
        f = ("def", "f", (), (("give", name("x")),))
        hall = loaded({"a": plain(let("x", 1), f, ("box", "b", (("let", "y", name("x")),))), "m": plain(take("a", "f", "b", "x"))}, "m")
        put(hall, "a", plain(let("x", 2), ("def", "f", (), (("give", num(99)),)), ("box", "b", (let("y", 98),))))
        hall.again(("a",))
        put(hall, "o", plain(use("m", "m"), ("say", call(dot("m", "f"))), ("say", dot("m", "b", "y")), ("say", dot("m", "x"))))
        hall.load(("o",))
        put(hall, "k", plain(take("a", "f", "b"), ("say", call("f")), ("say", dot("b", "y"))))
        hall.load(("k",))
        self.assertEqual(heard(hall), [2, 1, 1, 99, 98])

    def test_a_module_object_stays_the_same(self):
        hall = loaded({"a": plain(let("x", 1)), "m": plain(use("a", "a"))}, "m")
        put(hall, "a", plain(let("x", 7)))
        hall.again(("a",))
        put(hall, "o", plain(use("m", "m"), ("say", dot("m", "a", "x"))))
        hall.load(("o",))
        self.assertEqual(heard(hall), [7])


if __name__ == "__main__":
    unittest.main()

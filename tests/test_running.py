"""Points 4 to 6: each kind of row when it runs, to whom names belong, values and the order of evaluation."""

import unittest

from tests.kit import (
    ONE, call, dot, fell, fell_load, heard, let, loaded, name, num, package, plain, plus, said_of, say, take, tell, use,
    world,
)

FAIL = ("say", name("missing"))


def definition(x, *rows, xs=()):
    return ("def", x, xs, rows)


def box(x, *rows):
    return ("box", x, rows)


def mark(x, n):
    """A def that says a number and gives it, to see when it is called."""
    return definition(x, tell(n), ("give", num(n)))


class Rows(unittest.TestCase):
    def test_let_binds_and_binds_again(self):
        self.assertEqual(said_of(let("x", 3), say("x"), ("let", "x", plus(name("x"), num(4))), say("x")), [3, 7])

    def test_numbers_grow_and_are_negative(self):
        rows = (let("x", 9999), ("let", "x", plus(name("x"), name("x"))), say("x"), ("say", plus(num(-9999), num(-1))))
        self.assertEqual(said_of(*rows), [19998, -10000])

    def test_less(self):
        for e, f, result in ((1, 2, 1), (2, 2, 0), (3, 2, 0), (-1, 0, 1)):
            self.assertEqual(said_of(("say", ("less", num(e), num(f)))), [result])

    def test_set_in_a_box_and_in_a_module(self):
        rows = (box("b", let("x", 1)), ("set", name("b"), "x", num(2)), ("set", name("b"), "y", num(3)))
        self.assertEqual(said_of(*rows, ("say", dot("b", "x")), ("say", dot("b", "y"))), [2, 3])
        rows = (use("o", "o"), ("set", name("o"), "x", num(5)), ("set", name("o"), "z", num(6)), ("say", call(dot("o", "f"))))
        other = plain(let("x"), definition("f", ("give", plus(name("x"), name("z")))))
        self.assertEqual(said_of(*rows, o=other), [11])

    def test_set_in_the_own_module(self):
        self.assertEqual(said_of(use("m", "m"), ("set", name("m"), "x", num(4)), say("x")), [4])

    def test_drop(self):
        rows = (let("x"), ("drop", "x"), ("try", (say("x"),), (tell(0),)), let("x", 2), say("x"))
        self.assertEqual(said_of(*rows), [0, 2])

    def test_say_tells_edition_path_and_value(self):
        hall = loaded({"a": package(tell(5), use("a.b", "c")), "a.b": plain(tell(6))}, "a")
        self.assertEqual(hall.said(), [("one", ("a",), 5), ("one", ("a", "b"), 6)])

    def test_when(self):
        for n, result in ((0, 2), (1, 1), (-1, 1), (9999, 1)):
            self.assertEqual(said_of(("when", num(n), (tell(1),), (tell(2),)), tell(9)), [result, 9])
        self.assertEqual(said_of(("when", num(0), (tell(1),), ()), ("when", ONE, (), (tell(1),))), [])

    def test_when_takes_its_names_from_the_block_around(self):
        self.assertEqual(said_of(("when", ONE, (let("x", 4),), ()), say("x")), [4])

    def test_try(self):
        self.assertEqual(said_of(("try", (tell(1), FAIL, tell(2)), (tell(3), tell(4))), tell(5)), [1, 3, 4, 5])
        self.assertEqual(said_of(("try", (tell(1), tell(2)), (tell(3),)), tell(5)), [1, 2, 5])
        self.assertEqual(said_of(("try", (FAIL,), ()), ("try", (), (tell(1),)), tell(5)), [5])

    def test_a_failure_in_the_second_rows_is_not_caught_by_the_same_try(self):
        self.assertEqual(said_of(("try", (("try", (FAIL,), (tell(1), FAIL, tell(2))), tell(3)), (tell(4),))), [1, 4])
        self.assertEqual(fell_load(self, {"m": plain(("try", (FAIL,), (("drop", "x"),)))}, "m"), ("name", "m"))

    def test_what_was_done_before_a_failure_remains(self):
        rows = (("try", (let("x", 7), box("b"), ("set", name("b"), "y", num(8)), FAIL), ()), say("x"), ("say", dot("b", "y")))
        self.assertEqual(said_of(*rows), [7, 8])

    def test_a_try_after_half_of_an_expression(self):
        bad = definition("bad", ("give", plus(ONE, name("missing"))))
        good = definition("good", ("try", (("give", plus(num(40), call("bad"))),), (("give", num(2)),)))
        self.assertEqual(said_of(bad, good, ("say", plus(num(100), plus(call("good"), num(1000))))), [1102])

    def test_again_use_lazy_from_far_show_and_hide_run_too(self):
        rows = (
            ("show", ("x",)), ("hide", ("y",)), use("o", "o"), ("again", ("o",)), ("lazy", ("o",), "l"), take("o", "x"),
            ("try", (("far", "two", ("o",), "x", "z"),), (tell(3),)), say("x"), ("say", dot("l", "x")),
        )
        self.assertEqual(said_of(*rows, o=plain(let("x", 5), tell(0))), [0, 0, 3, 5, 5])


class EachBlock(unittest.TestCase):
    """Each kind of row that binds a name, in each block: where the name is then."""

    binding = {
        "let": (let("x", 5), 5),
        "def": (definition("x"), ("def", ("m",), "x", None)),
        "box": (box("x"), ("box", ("m",), "x", None)),
        "use": (use("o", "x"), ("module", ("o",))),
        "use without a name": (use("x.o"), ("module", ("x",))),
        "lazy": (("lazy", ("o",), "x"), ("module", ("o",))),
        "from": (("from", 0, ("o",), (("n", "x"),)), 3),
        "from with dots": (("from", 1, ("o",), (("n", "x"),)), 3),
    }
    others = {"o": plain(let("n", 3)), "x": package(), "x.o": plain()}

    def hall(self, *rows):
        return loaded({"m": plain(*rows), **self.others}, "m")

    def told(self, hall):
        """What was said, without the numbers of defs and boxes."""
        return [value[:3] + (None,) if isinstance(value, tuple) and len(value) == 4 else value for value in heard(hall)]

    def test_in_a_module_in_a_when_and_in_a_try(self):
        for word, (row, value) in self.binding.items():
            for outer in (
                row, ("when", ONE, (row,), ()), ("when", num(0), (), (row,)), ("try", (row,), ()), ("try", (FAIL,), (row,)),
            ):
                with self.subTest(word=word, outer=outer):
                    hall = self.hall(outer, say("x"))
                    self.assertEqual(self.told(hall), [value])
                    self.assertIn("x", hall.names(("m",)))

    def test_in_a_def(self):
        for word, (row, value) in self.binding.items():
            for outer in (row, ("when", ONE, (row,), ()), ("try", (FAIL,), (row,))):
                with self.subTest(word=word, outer=outer):
                    hall = self.hall(definition("f", outer, say("x")), ("say", call("f")))
                    self.assertEqual(self.told(hall), [value, 0])
                    self.assertEqual(hall.names(("m",)), ["f"])

    def test_in_a_def_that_declares_the_name_with_top(self):
        for word, (row, value) in self.binding.items():
            with self.subTest(word=word):
                hall = self.hall(definition("f", row, ("top", ("x",))), ("say", call("f")), say("x"))
                self.assertEqual(self.told(hall), [0, value])
                self.assertEqual(hall.names(("m",)), ["f", "x"])

    def test_in_a_def_that_declares_the_name_with_outer(self):
        for word, (row, value) in self.binding.items():
            with self.subTest(word=word):
                inner = definition("g", ("outer", ("x",)), row)
                hall = self.hall(definition("f", let("x"), inner, ("let", "r", call("g")), say("x")), ("say", call("f")))
                self.assertEqual(self.told(hall), [value, 0])
                self.assertEqual(hall.names(("m",)), ["f"])

    def test_in_a_box(self):
        for word, (row, value) in self.binding.items():
            for outer in (row, ("when", ONE, (row,), ()), ("try", (FAIL,), (row,))):
                with self.subTest(word=word, outer=outer):
                    hall = self.hall(box("b", outer, say("x")), ("say", dot("b", "x")))
                    self.assertEqual(self.told(hall), [value, value])
                    self.assertEqual(hall.names(("m",)), ["b"])

    def test_in_a_box_in_a_def(self):
        for word, (row, value) in self.binding.items():
            with self.subTest(word=word):
                hall = self.hall(definition("f", box("b", row), ("say", dot("b", "x"))), ("say", call("f")))
                self.assertEqual(self.told(hall), [value, 0])

    def test_drop_in_each_block(self):
        hall = self.hall(let("x"), ("drop", "x"), definition("f", let("x"), ("drop", "x"), say("x")))
        self.assertEqual(hall.names(("m",)), ["f"])
        refused = ("try", (("drop", "x"),), (tell(7),))
        self.assertEqual(said_of(let("x"), definition("f", refused), ("say", call("f")), say("x")), [7, 0, 1])
        self.assertEqual(said_of(let("x"), box("b", refused), say("x")), [7, 1])
        self.assertEqual(said_of(let("x"), box("b", let("x"), box("c", refused)), say("x")), [7, 1])
        self.assertEqual(said_of(let("x"), definition("f", let("x"), ("drop", "x")), ("say", call("f")), say("x")), [0, 1])
        self.assertEqual(said_of(let("x"), box("b", let("x", 2), ("drop", "x"), say("x")), say("x")), [1, 1])
        self.assertEqual(said_of(
            let("x"), definition("f", ("top", ("x",)), ("drop", "x")), ("say", call("f")), ("try", (say("x"),), (tell(5),)),
        ), [0, 5])
        inner = definition("g", ("outer", ("x",)), ("drop", "x"))
        self.assertEqual(said_of(
            let("x"), definition("f", let("x"), inner, ("let", "r", call("g")), ("try", (say("x"),), (tell(5),))),
            ("say", call("f")), say("x"),
        ), [5, 0, 1])


class NamesInDefs(unittest.TestCase):
    def test_parameters_belong_to_the_call(self):
        rows = (let("x", 1), definition("f", ("let", "x", plus(name("x"), name("y"))), ("give", name("x")), xs=("x", "y")))
        self.assertEqual(said_of(*rows, ("say", call("f", num(10), num(20))), say("x")), [30, 1])

    def test_a_bound_name_belongs_to_the_call_wherever_it_is_bound(self):
        for row in (let("x"), ("when", num(0), (let("x"),), ()), ("try", (), (("drop", "x"),)), box("x"), use("x.y")):
            with self.subTest(row=row):
                rows = (let("x"), definition("f", ("try", (say("x"),), (tell(7),)), ("when", num(0), (row,), ())))
                self.assertEqual(said_of(*rows, ("say", call("f"))), [7, 0])

    def test_a_name_that_is_not_bound_belongs_to_the_module_and_is_read_when_the_rows_run(self):
        rows = (definition("f", ("give", name("x"))), let("x", 1), ("say", call("f")), let("x", 2), ("say", call("f")))
        self.assertEqual(said_of(*rows), [1, 2])

    def test_a_name_that_a_box_or_a_def_inside_binds_is_not_bound_in_the_block(self):
        rows = (let("x", 3), definition("f", box("b", let("x", 4)), definition("g", let("x", 5)), say("x")), ("say", call("f")))
        self.assertEqual(said_of(*rows), [3, 0])

    def test_each_call_has_names_of_its_own(self):
        again = definition("f", ("when", name("n"), (("let", "r", call("f", plus(name("n"), num(-1)))),), ()), say("n"), xs=("n",))
        self.assertEqual(said_of(again, ("say", call("f", num(2)))), [0, 1, 2, 0])

    def test_top(self):
        rows = (let("x", 1), definition("f", ("let", "x", plus(name("x"), ONE)), ("top", ("x",))))
        self.assertEqual(said_of(*rows, ("say", call("f")), say("x"), ("say", call("f")), say("x")), [0, 2, 0, 3])

    def test_top_belongs_to_the_module_of_the_def(self):
        other = plain(definition("f", ("top", ("x",)), let("x", 5)), definition("g", ("give", name("x"))))
        rows = (let("x", 1), take("o", "f", "g"), ("say", call("f")), say("x"), ("say", call("g")))
        self.assertEqual(said_of(*rows, o=other), [0, 1, 5])

    def test_top_passes_over_the_defs_around(self):
        inner = definition("g", ("top", ("x",)), ("give", name("x")))
        rows = (let("x", 1), definition("f", let("x", 2), inner, ("give", call("g"))), ("say", call("f")))
        self.assertEqual(said_of(*rows), [1])

    def test_a_def_in_a_def_reads_the_names_of_the_call_in_which_it_was_created(self):
        maker = definition("f", definition("g", ("give", plus(name("n"), name("x")))), ("give", name("g")), xs=("n",))
        rows = (let("x", 100), maker, ("let", "one", call("f", num(1))), ("let", "two", call("f", num(2))))
        rows += (("say", call("one")), ("say", call("two")), let("x", 200), ("say", call("one")))
        self.assertEqual(said_of(*rows), [101, 102, 201])

    def test_outer_writes_into_the_call_in_which_the_def_was_created(self):
        step = definition("g", ("outer", ("n",)), ("let", "n", plus(name("n"), ONE)), ("give", name("n")))
        rows = (let("n", 50), definition("f", let("n", 0), step, ("give", name("g"))))
        rows += (("let", "one", call("f")), ("let", "two", call("f")))
        rows += (("say", call("one")), ("say", call("one")), ("say", call("two")), say("n"))
        self.assertEqual(said_of(*rows), [1, 2, 1, 50])

    def test_the_nearest_def_that_binds_the_name(self):
        for own, result in (((let("x", 2),), 2), ((), 1), ((("top", ("x",)),), 1), ((("outer", ("x",)),), 1)):
            with self.subTest(own=own):
                inner = definition("h", ("give", name("x")))
                middle = definition("g", *own, inner, ("give", call("h")))
                rows = (let("x", 0), definition("f", let("x", 1), middle, ("give", call("g"))), ("say", call("f")))
                self.assertEqual(said_of(*rows), [result])

    def test_a_name_of_an_enclosing_call_that_does_not_exist_is_searched_nowhere_else(self):
        inner = definition("g", ("give", name("x")))
        rows = (let("x", 0), definition("f", inner, ("let", "r", call("g")), let("x", 1)), ("say", call("f")))
        self.assertEqual(fell_load(self, {"m": plain(*rows)}, "m"), ("name", "m"))

    def test_a_def_does_not_read_the_names_of_its_caller(self):
        rows = (definition("g", ("give", name("x"))), definition("f", let("x"), ("give", call("g"))), ("say", call("f")))
        self.assertEqual(fell_load(self, {"m": plain(*rows)}, "m"), ("name", "m"))

    def test_a_def_of_another_module_reads_the_names_of_its_own(self):
        rows = (let("x", 1), take("o", "f"), ("say", call("f")))
        self.assertEqual(said_of(*rows, o=plain(let("x", 2), definition("f", ("give", name("x"))))), [2])


class NamesInBoxes(unittest.TestCase):
    def test_a_box_reads_around_it_and_writes_into_itself(self):
        rows = (let("x", 1), box("b", say("x"), let("x", 2), say("x"), ("drop", "x"), say("x"), let("x", 3)))
        self.assertEqual(said_of(*rows, say("x"), ("say", dot("b", "x"))), [1, 2, 1, 1, 3])

    def test_boxes_in_boxes(self):
        inner = box("c", say("x"), say("y"), let("y", 5), say("y"))
        rows = (let("x", 1), let("y", 2), box("b", let("x", 3), inner, say("y")), say("y"))
        self.assertEqual(said_of(*rows, ("say", dot("b", "c", "y"))), [3, 2, 5, 2, 2, 5])

    def test_boxes_in_defs(self):
        rows = (let("x", 1), let("y", 2), definition("f", let("x", 3), box("b", say("x"), say("y"), let("x", 4)), say("x")))
        self.assertEqual(said_of(*rows, ("say", call("f"))), [3, 2, 3, 0])

    def test_a_box_in_a_def_with_top_and_outer(self):
        inner = definition("g", ("top", ("x",)), ("outer", ("y",)), box("b", say("x"), say("y"), let("x", 7), let("y", 8)))
        rows = (let("x", 1), let("y", 2), definition("f", let("x", 3), let("y", 4), inner, ("let", "r", call("g")), say("y")))
        self.assertEqual(said_of(*rows, ("say", call("f")), say("x")), [1, 4, 4, 0, 1])

    def test_a_box_in_a_def_reads_a_name_of_the_call_that_does_not_exist_yet(self):
        rows = (let("x", 1), definition("f", box("b", say("x")), let("x", 3)), ("say", call("f")))
        self.assertEqual(fell_load(self, {"m": plain(*rows)}, "m"), ("name", "m"))

    def test_a_def_in_a_box_does_not_see_the_box(self):
        rows = (let("x", 1), box("b", let("x", 2), definition("f", ("give", name("x")))), ("say", call(dot("b", "f"))))
        self.assertEqual(said_of(*rows), [1])
        rows = (box("b", let("x", 2), definition("f", ("give", name("x")))), ("say", call(dot("b", "f"))))
        self.assertEqual(fell_load(self, {"m": plain(*rows)}, "m"), ("name", "m"))

    def test_a_def_in_a_box_in_a_def_sees_the_call(self):
        inner = box("b", let("x", 9), definition("g", ("outer", ("x",)), ("let", "x", plus(name("x"), ONE)), ("give", name("x"))))
        rows = (let("x", 1), definition("f", inner, ("give", call(dot("b", "g"))), xs=("x",)))
        self.assertEqual(said_of(*rows, ("say", call("f", num(5))), say("x")), [6, 1])

    def test_a_box_in_a_def_in_a_box(self):
        inner = definition("f", let("y", 3), box("c", say("x"), say("y")))
        self.assertEqual(said_of(let("x", 1), box("b", let("x", 2), inner), ("say", call(dot("b", "f")))), [1, 3, 0])

    def test_the_name_of_a_box_is_bound_when_its_rows_have_run(self):
        rows = (let("b", 1), box("b", say("b")), ("say", dot("b", "x")))
        hall = world({"m": plain(*rows)})
        self.assertEqual(fell(self, hall.load, ("m",)), ("dot", "m"))
        self.assertEqual(heard(hall), [1])
        self.assertEqual(said_of(let("b", 1), ("try", (box("b", FAIL),), ()), say("b")), [1])

    def test_the_rows_of_a_box_are_run_once(self):
        rows = (box("b", tell(1), let("x")), ("say", dot("b", "x")), ("say", dot("b", "x")), ("let", "c", name("b")))
        self.assertEqual(said_of(*rows), [1, 1, 1])

    def test_a_box_is_one_object_whatever_its_names_are(self):
        rows = (box("b", let("x")), ("let", "c", name("b")), ("set", name("c"), "x", num(5)), ("say", dot("b", "x")))
        self.assertEqual(said_of(*rows), [5])


class Calls(unittest.TestCase):
    def test_a_call_ends_with_the_first_give(self):
        self.assertEqual(said_of(definition("f", tell(1), ("give", num(5)), tell(2)), ("say", call("f"))), [1, 5])

    def test_a_call_without_a_give_is_0(self):
        self.assertEqual(said_of(definition("f"), ("say", call("f"))), [0])

    def test_a_give_in_a_when_and_in_a_try(self):
        rows = (("when", ONE, (("try", (("give", num(5)),), (tell(1),)), tell(2)), ()), tell(3))
        self.assertEqual(said_of(definition("f", *rows), ("say", call("f")), tell(4)), [5, 4])
        rows = (("try", (FAIL,), (("give", num(6)),)), tell(3))
        self.assertEqual(said_of(definition("f", *rows), ("say", call("f"))), [6])

    def test_a_give_leaves_no_try_behind(self):
        rows = (definition("f", ("try", (("give", num(5)),), (tell(1),))), ("say", call("f")), FAIL)
        hall = world({"m": plain(*rows)})
        self.assertEqual(fell(self, hall.load, ("m",)), ("name", "m"))
        self.assertEqual(heard(hall), [5])

    def test_a_give_ends_only_its_own_call(self):
        rows = (definition("g", ("give", num(1))), definition("f", ("let", "r", call("g")), tell(2), ("give", num(3))))
        self.assertEqual(said_of(*rows, ("say", plus(call("f"), call("g")))), [2, 4])

    def test_values_of_every_kind_can_be_passed_and_given(self):
        rows = (definition("f", ("give", name("v")), xs=("v",)), box("b", let("x", 2)), use("o", "o"))
        rows += (("say", dot(call("f", name("b")), "x")), ("say", dot(call("f", name("o")), "n")))
        rows += (("say", call(call("f", name("f")), num(8))),)
        self.assertEqual(said_of(*rows, o=plain(let("n", 4))), [2, 4, 8])

    def test_three_parameters(self):
        rows = (definition("f", say("a"), say("c"), say("b"), xs=("a", "b", "c")), ("say", call("f", ONE, num(2), num(3))))
        self.assertEqual(said_of(*rows), [1, 3, 2, 0])


class Order(unittest.TestCase):
    marks = (mark("a", 1), mark("b", 2), mark("c", 3), mark("d", 4))

    def heard_until_it_falls(self, *rows):
        hall = world({"m": plain(*self.marks, *rows)})
        return fell(self, hall.load, ("m",)), heard(hall)

    def test_from_left_to_right(self):
        for word in ("plus", "less"):
            self.assertEqual(said_of(*self.marks, ("let", "x", (word, call("b"), call("a")))), [2, 1])
        f = definition("f", tell(9), xs=("x", "y"))
        self.assertEqual(said_of(*self.marks, f, ("let", "x", call("f", call("b"), call("a")))), [2, 1, 9])
        maker = definition("make", tell(7), ("give", name("f")))
        rows = (*self.marks, f, maker, ("let", "x", call(call("make"), call("b"), call("a"))))
        self.assertEqual(said_of(*rows), [7, 2, 1, 9])

    def test_set_evaluates_the_object_first(self):
        rows = (box("o"), definition("get", tell(8), ("give", name("o"))), ("set", call("get"), "x", call("a")))
        self.assertEqual(said_of(*self.marks, *rows), [8, 1])

    def test_kinds_are_checked_when_all_parts_have_been_evaluated(self):
        for row, word, result in (
            (("let", "x", plus(name("a"), call("b"))), "number", [2]),
            (("let", "x", ("less", name("a"), call("b"))), "number", [2]),
            (("let", "x", plus(name("a"), name("missing"))), "name", []),
            (("let", "x", call(num(5), call("b"), call("c"))), "call", [2, 3]),
            (("let", "x", call(call("d"), call("b"), call("c"))), "call", [4, 2, 3]),
            (("let", "x", call(num(5), call("b"), name("missing"))), "name", [2]),
            (("let", "x", call("a", call("b"))), "call", [2]),
            (("set", num(5), "x", call("b")), "dot", [2]),
            (("set", name("a"), "x", call("b")), "dot", [2]),
            (("set", num(5), "x", name("missing")), "name", []),
        ):
            with self.subTest(row=row):
                self.assertEqual(self.heard_until_it_falls(row), ((word, "m"), result))

    def test_a_hidden_name_is_refused_to_set_when_the_value_has_been_evaluated(self):
        hall = world({"m": plain(mark("b", 2), use("o", "o"), ("set", name("o"), "x", call("b"))), "o": plain(("hide", ("x",)))})
        self.assertEqual(fell(self, hall.load, ("m",)), ("hidden", "m"))
        self.assertEqual(heard(hall), [2])

    def test_rows_run_one_after_another(self):
        self.assertEqual(said_of(tell(1), ("when", ONE, (tell(2), tell(3)), ()), box("b", tell(4)), tell(5)), [1, 2, 3, 4, 5])


class Lazy(unittest.TestCase):
    modules = {"o": plain(tell(7), let("n", 3), ("lazy", ("p",), "deep")), "p": plain(tell(8), let("n", 4))}

    def hall(self, *rows, **others):
        return loaded({"m": plain(*rows), **self.modules, **others}, "m")

    def test_a_lazy_name_loads_nothing_until_it_is_read(self):
        hall = self.hall(("lazy", ("o",), "x"), tell(1))
        self.assertEqual((heard(hall), hall.table(), hall.value(("m",), "x")), ([1], [("m",)], ("lazy", ("o",))))

    def test_read_by_name(self):
        hall = self.hall(("lazy", ("o",), "x"), tell(1), say("x"), say("x"))
        self.assertEqual(heard(hall), [1, 7, ("module", ("o",)), ("module", ("o",))])
        self.assertEqual(hall.value(("m",), "x"), ("module", ("o",)))
        self.assertEqual(hall.value(("o",), "deep"), ("lazy", ("p",)))

    def test_read_by_dot(self):
        hall = self.hall(use("o", "o"), tell(1), ("say", dot("o", "deep", "n")), tell(2))
        self.assertEqual(heard(hall), [7, 1, 8, 4, 2])
        self.assertEqual(hall.value(("o",), "deep"), ("module", ("p",)))

    def test_read_by_dot_in_a_box(self):
        hall = self.hall(box("b", ("lazy", ("p",), "x")), tell(1), ("say", dot("b", "x", "n")), ("say", dot("b", "x", "n")))
        self.assertEqual(heard(hall), [1, 8, 4, 4])

    def test_read_by_from(self):
        hall = self.hall(take("o", "deep"), tell(1))
        self.assertEqual(heard(hall), [7, 8, 1])
        self.assertEqual([hall.value(("m",), "deep"), hall.value(("o",), "deep")], [("module", ("p",))] * 2)

    def test_read_through_a_def_and_a_box_where_the_name_belongs(self):
        hall = self.hall(("lazy", ("p",), "x"), definition("f", box("b", ("say", dot("x", "n")))), ("say", call("f")))
        self.assertEqual((heard(hall), hall.value(("m",), "x")), ([8, 4, 0], ("module", ("p",))))
        rows = (("lazy", ("p",), "x"), definition("g", ("give", dot("x", "n"))), tell(1), ("say", call("g")), say("x"))
        hall = self.hall(definition("f", *rows), ("say", call("f")))
        self.assertEqual(heard(hall), [1, 8, 4, ("module", ("p",)), 0])

    def test_passed_on_it_is_the_module(self):
        hall = self.hall(("lazy", ("p",), "x"), ("let", "y", name("x")), definition("f", xs=("v",)), ("say", call("f", name("x"))))
        self.assertEqual(hall.value(("m",), "y"), ("module", ("p",)))

    def test_read_in_the_middle_of_an_expression(self):
        rows = (("lazy", ("k", "x"), "x"), ("say", plus(num(10), plus(num(20), dot("x", "n")))), say("x"), let("z", 5))
        hall = loaded({"m": plain(*rows), "k": package(tell(1)), "k.x": plain(let("n", 3))}, "m")
        self.assertEqual(heard(hall), [1, 33, ("module", ("k", "x"))])
        self.assertEqual(hall.value(("m",), "x"), ("module", ("k", "x")))

    def test_kept_lazy_by_from_all(self):
        hall = self.hall(("from", 0, ("o",), "*"), tell(1), ("say", dot("deep", "n")))
        self.assertEqual(heard(hall), [7, 1, 8, 4])
        self.assertEqual([hall.value((x,), "deep") for x in "mo"], [("module", ("p",)), ("lazy", ("p",))])

    def test_a_from_all_with_a_show_takes_each_name_as_a_from_does(self):
        shown = plain(("show", ("l",)), ("lazy", ("p",), "l"))
        hall = self.hall(("from", 0, ("s",), "*"), tell(1), s=shown)
        self.assertEqual(heard(hall), [8, 1])
        self.assertEqual([hall.value((x,), "l") for x in "ms"], [("module", ("p",))] * 2)

    def test_a_set_and_a_let_take_the_place_of_a_lazy_value(self):
        hall = self.hall(use("o", "o"), ("set", name("o"), "deep", num(2)), ("say", dot("o", "deep")))
        self.assertEqual((heard(hall), hall.table()), ([7, 2], [("m",), ("o",)]))

    def test_drop_does_not_read(self):
        self.assertEqual(self.hall(("lazy", ("o",), "x"), ("drop", "x")).table(), [("m",)])

    def test_a_load_that_fails(self):
        bad = plain(tell(5), FAIL)
        hall = world({"m": plain(("lazy", ("bad",), "x"), ("lazy", ("none",), "y")), "bad": bad, "o": plain(
            use("m", "m"), ("try", (("say", dot("m", "x")),), (tell(1),)), ("say", dot("m", "x")))})
        self.assertEqual(fell(self, hall.load, ("o",)), ("name", "bad"))
        self.assertEqual((heard(hall), hall.value(("m",), "x")), ([5, 1, 5], ("lazy", ("bad",))))
        hall.put("home", ("o",), "plain", (take("m", "y"),))
        self.assertEqual(fell(self, hall.load, ("o",)), ("module", "o"))
        self.assertEqual(hall.value(("m",), "y"), ("lazy", ("none",)))
        hall.put("home", ("bad",), "plain", ())
        hall.put("home", ("o",), "plain", (use("m", "m"), ("say", dot("m", "x"))))
        hall.load(("o",))
        self.assertEqual(hall.value(("m",), "x"), ("module", ("bad",)))

    def test_a_half_loaded_module_is_taken_for_a_lazy_name(self):
        hall = loaded({"m": plain(let("n", 5), use("o", "o")), "o": plain(("lazy", ("m",), "x"), ("say", dot("x", "n")))}, "m")
        self.assertEqual(heard(hall), [5])

    def test_the_path_is_that_of_the_row_that_reads(self):
        modules = {"m": plain(("lazy", ("none",), "x")), "o": plain(use("m", "m"), ("say", dot("m", "x")))}
        self.assertEqual(fell_load(self, modules, "o"), ("module", "o"))
        modules = {"m": plain(("lazy", ("none",), "x"), definition("f", say("x"))), "o": plain(take("m", "f"), ("say", call("f")))}
        self.assertEqual(fell_load(self, modules, "o"), ("module", "m"))

    def test_a_name_that_is_dropped_while_its_module_is_loaded_has_the_module_all_the_same(self):
        hall = loaded({
            "m": plain(("lazy", ("o",), "x"), let("y"), definition("f", ("top", ("x",)), ("drop", "x")), say("x")),
            "o": plain(use("m", "m"), ("say", call(dot("m", "f")))),
        }, "m")
        self.assertEqual((hall.names(("m",)), hall.value(("m",), "x")), (["y", "f", "x"], ("module", ("o",))))


class ManyNames(unittest.TestCase):
    def test_names_stand_in_the_order_in_which_they_came_into_existence(self):
        rows = (let("c"), let("a"), let("b"), let("c", 2), ("drop", "a"), let("a"), use("m", "m"), ("set", name("m"), "d", ONE))
        self.assertEqual(loaded({"m": plain(*rows)}, "m").names(("m",)), ["c", "b", "a", "m", "d"])


if __name__ == "__main__":
    unittest.main()

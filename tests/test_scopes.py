"""Points 4 and 5, as far as `bound` and `reached` tell them."""

import unittest

from modulehall.scopes import bound, reached
from tests.kit import ONE, let, name, say

BINDING = (
    (let("x"), [("x", "let")]),
    (("drop", "x"), [("x", "drop")]),
    (("def", "x", ("y",), ()), [("x", "def")]),
    (("box", "x", ()), [("x", "box")]),
    (("use", ("a", "b"), "x"), [("x", "use")]),
    (("use", ("a", "b"), None), [("a", "use")]),
    (("use", ("a",), None), [("a", "use")]),
    (("lazy", ("a", "b"), "x"), [("x", "lazy")]),
    (("far", "t", ("a",), "y", "x"), [("x", "far")]),
    (("from", 0, ("a",), (("y", "x"),)), [("x", "from")]),
    (("from", 2, (), (("z", "z"), ("y", "x"), ("w", "x"))), [("z", "from"), ("x", "from"), ("x", "from")]),
)
BINDING_NOTHING = (
    ("from", 0, ("a",), "*"), ("from", 1, (), "*"), ("set", name("x"), "y", ONE), say("x"), ("again", ("x",)),
    ("show", ("x",)), ("hide", ("x",)), ("when", name("x"), (), ()), ("try", (), ()),
)


def def_rows(*rows):
    return ("def", "f", (), rows)


class Bound(unittest.TestCase):
    def test_each_word_that_binds(self):
        for row, pairs in BINDING:
            self.assertEqual(bound((row,)), pairs)

    def test_rows_that_bind_nothing(self):
        for row in BINDING_NOTHING:
            self.assertEqual(bound((row,)), [])
        self.assertEqual(bound(()), [])

    def test_the_rows_of_when_and_try_belong_to_the_module(self):
        for row, pairs in BINDING:
            for outer in (
                ("when", ONE, (row,), ()), ("when", ONE, (), (row,)), ("try", (row,), ()), ("try", (), (row,)),
                ("try", (("when", ONE, (), (row,)),), ()),
            ):
                self.assertEqual(bound((outer,)), pairs)

    def test_the_rows_of_boxes_and_defs_do_not(self):
        for row, pairs in BINDING:
            self.assertEqual(bound((("box", "b", (row,)),)), [("b", "box")])
            self.assertEqual(bound((("box", "b", (("box", "c", (row,)),)),)), [("b", "box")])
            self.assertEqual(bound((def_rows(row),)), [("f", "def")])
            self.assertEqual(bound((def_rows(("try", (row,), ())),)), [("f", "def")])
            self.assertEqual(bound((("try", (("box", "b", (("try", (), (row,)),)),), ()),)), [("b", "box")])

    def test_names_declared_with_top(self):
        for row, pairs in BINDING:
            names = tuple(sorted({pair[0] for pair in pairs}))
            for rows in (
                (("top", names), row), (row, ("top", names)), (row, ("try", (), (("top", names),))),
                (("top", names), ("when", ONE, (), (row,))), (("top", ("q",)), ("top", names), ("try", (row,), ())),
            ):
                with self.subTest(rows=rows):
                    self.assertEqual(bound((def_rows(*rows),)), [("f", "def")] + pairs)
                    self.assertEqual(bound((("box", "b", (def_rows(*rows),)),)), [("b", "box")] + pairs)
                    self.assertEqual(bound((("def", "g", ("x",), (def_rows(*rows),)),)), [("g", "def")] + pairs)

    def test_only_the_declared_names_of_a_def_are_told(self):
        rows = (("top", ("x",)), let("y"), let("x"), ("from", 0, ("a",), (("x", "z"), ("z", "x"))))
        self.assertEqual(bound((def_rows(*rows),)), [("f", "def"), ("x", "let"), ("x", "from")])

    def test_top_holds_in_its_own_block_only(self):
        top = ("top", ("x",))
        self.assertEqual(bound((def_rows(top, ("def", "g", (), (let("x"),))),)), [("f", "def")])
        self.assertEqual(bound((def_rows(top, ("box", "b", (let("x"),))),)), [("f", "def")])
        self.assertEqual(bound((def_rows(let("x"), ("def", "g", (), (top,))),)), [("f", "def")])
        self.assertEqual(bound((def_rows(top, ("box", "x", (let("x"),))),)), [("f", "def"), ("x", "box")])

    def test_top_at_any_depth(self):
        inner = ("def", "h", (), (("top", ("x", "h")), let("x")))
        self.assertEqual(bound((def_rows(("def", "g", (), (inner,))),)), [("f", "def"), ("x", "let")])
        self.assertEqual(bound((def_rows(("box", "b", (inner,)), let("x")),)), [("f", "def"), ("x", "let")])

    def test_names_declared_with_outer_and_the_names_of_a_def_are_not_told(self):
        inner = ("def", "g", ("y",), (("outer", ("x",)), let("x"), let("y")))
        self.assertEqual(bound((("def", "f", ("x",), (let("x"), inner)),)), [("f", "def")])

    def test_a_top_alone_binds_nothing(self):
        self.assertEqual(bound((def_rows(("top", ("x",)), say("x")),)), [("f", "def")])

    def test_the_order(self):
        rows = (
            let("z"),
            ("when", ONE, (let("b"), ("try", (let("c"),), (let("a"),))), (("drop", "b"),)),
            ("def", "f", (), (let("q"), ("when", ONE, (), (("drop", "y"),)), ("top", ("y",)), ("def", "y", (), ()))),
            ("box", "b", (("def", "g", (), (("top", ("g", "k")), ("use", ("k",), None))), let("p"))),
            ("from", 1, ("m",), (("i", "n"), ("h", "h"))),
            let("z"),
        )
        self.assertEqual(bound(rows), [
            ("z", "let"), ("b", "let"), ("c", "let"), ("a", "let"), ("b", "drop"), ("f", "def"), ("y", "drop"), ("y", "def"),
            ("b", "box"), ("k", "use"), ("n", "from"), ("h", "from"), ("z", "let"),
        ])

    def test_the_list_is_new(self):
        rows = (let("x"),)
        bound(rows).append(1)
        self.assertEqual(bound(rows=rows), [("x", "let")])
        self.assertIsInstance(bound(rows)[0], tuple)


class Reached(unittest.TestCase):
    def test_every_place_of_a_name_in_an_expression(self):
        a, b, c, d = [name(x) for x in "abcd"]
        self.assertEqual(reached((("say", ("plus", b, a)),)), ["a", "b"])
        self.assertEqual(reached((("say", ("less", ("less", d, c), ("plus", b, a))),)), ["a", "b", "c", "d"])
        self.assertEqual(reached((("say", ("dot", ("dot", a, "x"), "y")),)), ["a"])
        self.assertEqual(reached((("say", ("call", d, (c, ONE, ("call", b, (a,))))),)), ["a", "b", "c", "d"])
        self.assertEqual(reached((("say", ("call", a, ())),)), ["a"])
        self.assertEqual(reached((("say", ONE),)), [])

    def test_every_row_that_reads(self):
        self.assertEqual(reached((("let", "x", name("a")),)), ["a"])
        self.assertEqual(reached((("set", name("b"), "x", name("a")),)), ["a", "b"])
        self.assertEqual(reached((say("a"),)), ["a"])
        self.assertEqual(reached((("when", name("c"), (say("b"),), (say("a"),)),)), ["a", "b", "c"])
        self.assertEqual(reached((("try", (say("b"),), (say("a"),)),)), ["a", "b"])
        self.assertEqual(reached((("def", "f", (), (("give", name("a")),)),)), ["a"])

    def test_rows_that_read_nothing(self):
        for row in (
            ("drop", "x"), ("again", ("x",)), ("use", ("x", "y"), None), ("use", ("x",), "x"), ("lazy", ("x",), "x"),
            ("far", "x", ("x",), "x", "x"), ("from", 0, ("x",), (("x", "x"),)), ("from", 1, ("x",), "*"),
            ("def", "x", ("y",), ()), ("box", "x", ()), ("show", ("x",)), ("hide", ("x",)), ("try", (), ()),
            ("def", "f", (), (("top", ("x",)), ("drop", "x"))), ("box", "b", (("drop", "x"),)),
        ):
            self.assertEqual(reached((row,)), [])
        self.assertEqual(reached(()), [])

    def test_the_list_is_sorted_and_has_each_name_once(self):
        rows = (say("b"), say("aa"), say("c"), say("b"), say("a"), say("ab"), say("abc"), say("b"))
        self.assertEqual(reached(rows), ["a", "aa", "ab", "abc", "b", "c"])

    def test_names_that_the_module_binds_itself(self):
        self.assertEqual(reached((let("x"), say("x"), ("when", name("x"), (say("y"),), ()))), ["x", "y"])

    def test_in_a_def(self):
        self.assertEqual(reached((("def", "f", ("x",), (say("x"), say("y"))),)), ["y"])
        for row in (
            let("x"), ("drop", "x"), ("def", "x", (), ()), ("box", "x", ()), ("use", ("a",), "x"), ("use", ("x", "a"), None),
            ("lazy", ("a",), "x"), ("far", "t", ("a",), "y", "x"), ("from", 0, ("a",), (("y", "x"),)),
        ):
            for rows in ((row, say("x")), (say("x"), row), (("when", ONE, (), (row,)), ("try", (say("x"),), ()))):
                with self.subTest(rows=rows):
                    self.assertEqual(reached((("def", "f", (), rows),)), [])
                    self.assertEqual(reached((("def", "f", (), rows), say("x"))), ["x"])

    def test_the_names_of_a_def_do_not_hold_around_it(self):
        self.assertEqual(reached((("def", "f", ("x",), ()), ("def", "g", (), (say("x"),)))), ["x"])
        self.assertEqual(reached((("def", "f", ("x",), ()), say("x"))), ["x"])

    def test_in_a_def_in_a_def(self):
        inner = ("def", "g", ("z",), (say("x"), say("y"), say("z"), say("g")))
        self.assertEqual(reached((("def", "f", (), (inner,)),)), ["x", "y"])
        self.assertEqual(reached((("def", "f", ("x",), (inner,)),)), ["y"])
        self.assertEqual(reached((("def", "f", (), (inner, ("try", (), (let("y"),)))),)), ["x"])
        self.assertEqual(reached((("def", "f", ("y",), (("def", "h", (), (inner, let("x"))),)),)), [])

    def test_a_name_declared_with_top(self):
        self.assertEqual(reached((("def", "f", (), (("top", ("x",)), let("x"), say("x"))),)), ["x"])
        self.assertEqual(reached((("def", "f", (), (let("x"), say("x"), ("try", (), (("top", ("x",)),)))),)), ["x"])
        inner = ("def", "g", (), (("top", ("x",)), say("x")))
        self.assertEqual(reached((("def", "f", ("x",), (inner,)),)), ["x"])
        self.assertEqual(reached((("def", "f", (), (("top", ("x",)), let("x"))),)), [])

    def test_a_name_that_a_def_between_declares_with_top(self):
        inner = ("def", "h", (), (say("x"),))
        self.assertEqual(reached((("def", "f", ("x",), (("def", "g", (), (("top", ("x",)), inner)),)),)), [])
        self.assertEqual(reached((("def", "g", (), (("top", ("x",)), let("x"), inner)),)), ["x"])
        self.assertEqual(reached((("def", "g", (), (("top", ("x",)), ("def", "h", (), (let("x"), say("x"))))),)), [])

    def test_a_name_declared_with_outer(self):
        inner = ("def", "g", (), (("outer", ("x",)), say("x"), let("x"), say("y")))
        self.assertEqual(reached((("def", "f", ("x",), (inner,)),)), ["y"])
        deep = ("def", "f", ("x",), (("def", "h", (), (("top", ("x",)), say("y"), inner)),))
        self.assertEqual(reached((deep,)), ["y"])

    def test_in_a_box(self):
        self.assertEqual(reached((("box", "b", (say("x"), ("let", "z", name("y")))),)), ["x", "y"])
        self.assertEqual(reached((("box", "b", (("box", "c", (say("x"),)),)),)), ["x"])

    def test_in_a_box_a_name_that_the_box_binds_may_be_read_around_it(self):
        for rows in (
            (say("x"), let("x")), (("when", ONE, (let("x"),), ()), say("x")), (let("x"), ("drop", "x"), say("x")),
            (("let", "x", name("x")),), (("try", (("let", "x", name("y")),), ()), ("when", name("x"), (), ())),
            (let("x"), say("x")),
        ):
            with self.subTest(rows=rows):
                self.assertIn("x", reached((("box", "b", rows),)))
                self.assertIn("x", reached((("def", "f", (), (("box", "b", rows),)),)))
                self.assertNotIn("x", reached((("def", "f", ("x",), (("box", "b", rows),)),)))
        self.assertEqual(reached((("box", "b", (let("x"), ("box", "c", (say("x"),)))),)), ["x"])

    def test_in_a_box_in_a_def(self):
        box = ("box", "b", (say("x"), say("y"), say("b")))
        self.assertEqual(reached((("def", "f", ("x",), (box,)),)), ["y"])
        self.assertEqual(reached((("def", "f", (), (box, let("y"))),)), ["x"])
        self.assertEqual(reached((("def", "f", (), (("top", ("x",)), let("x"), let("y"), box)),)), ["x"])
        self.assertEqual(reached((("def", "f", ("x",), (("def", "g", (), (("outer", ("x",)), box)),)),)), ["y"])
        self.assertEqual(reached((("def", "f", ("x",), (("def", "g", (), (("top", ("x",)), box)),)),)), ["x", "y"])

    def test_in_a_def_in_a_box(self):
        inner = ("def", "g", ("z",), (say("x"), say("z")))
        self.assertEqual(reached((("box", "b", (let("x"), inner)),)), ["x"])
        self.assertEqual(reached((("def", "f", ("x",), (("box", "b", (inner,)),)),)), [])
        self.assertEqual(reached((("def", "f", (), (("box", "b", (let("x"), inner)),)),)), ["x"])

    def test_the_list_is_new(self):
        rows = (say("x"),)
        reached(rows).append("y")
        self.assertEqual(reached(rows=rows), ["x"])


if __name__ == "__main__":
    unittest.main()

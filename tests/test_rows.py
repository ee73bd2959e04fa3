"""Points 2 to 4: which rows are valid, with all limits, and where BadRows says that they are not."""

import unittest

from tests.kit import ONE, fault, let, name, say, valid

# Values that are a name, a path, an expression and so on in no place at all.
ODD = (True, False, 5, -1, b"a", [], {}, object(), ["a"], {"a": 1}, [("say", ONE)], (None,), ([],), ({},), ((),), ("A",))
BAD_NAMES = ODD + ("", "A", "aB", "a1", "a b", "a_b", "abcdefghi", "\u00e4", "a\n", "*", (), ("a",), ("name", "a"))
BAD_PATHS = ODD + (
    None, "a", "a.b", ("a", ""), ("a", "B"), ("a", None), ("a",) * 5, ("abcdefghi",), ["a", "b"], ("a", ("b",)),
)
BAD_NUMBERS = (None, True, False, "1", "a", b"1", (), (1,), [1], 10000, -10000, 10 ** 30, -(10 ** 30))
BAD_EXPRESSIONS = ODD + (
    None, "a", "num", (), ("num",), ("num", 1, 1), ("name",), ("name", "a", "b"), ("dot", ONE), ("dot", ONE, "a", "b"),
    ("call", ONE), ("call", ONE, (), ()), ("plus", ONE), ("plus", ONE, ONE, ONE), ("less", ONE), ("less", ONE, ONE, ONE),
    ("minus", ONE, ONE), ("NUM", 1), (1, "num"), (("num", 1),), (["num"], 1), ({}, 1), ["num", 1], ("say", ONE), ONE + (1,),
    ("lazy", ("a",)), ("module", ("a",)), "num 1",
)
BAD_ROWS = ODD + (None, "a", "", let("x"), ("say",), "*", 0)
BAD_XS = ODD + (
    None, "a", "ab", (), ("a", "a"), ("a", "b", "a"), ("a", "B"), ("a", None), ("a", ("b",)), ["a"], tuple("abcdefg"),
)
BAD_PAIRS = ODD + (
    None, "", "**", "a", "x", b"*", (), ("*",), ("a", "b"), (("a",),), (("a", "b", "c"),), (["a", "b"],), [("a", "b")],
    (("a", "B"),), (("", "b"),), (("a", None),), (("a", "b"), "ab"), (("a", "b"),) * 7, (("a", "*"),), ("*", "*"),
)
BAD_DOTS = (None, True, False, "0", ".", b"", (), [], -1, 4, 100, (1,))

# For each word a valid row that may stand in the rows of a def, and what can be wrong with each part.
EXAMPLES = {
    "let": (let("x"), BAD_NAMES + (None,), BAD_EXPRESSIONS),
    "set": (("set", name("m"), "x", ONE), BAD_EXPRESSIONS, BAD_NAMES + (None,), BAD_EXPRESSIONS),
    "drop": (("drop", "x"), BAD_NAMES + (None,)),
    "say": (("say", ONE), BAD_EXPRESSIONS),
    "when": (("when", ONE, (let("x"),), (let("y"),)), BAD_EXPRESSIONS, BAD_ROWS, BAD_ROWS),
    "try": (("try", (let("x"),), (let("y"),)), BAD_ROWS, BAD_ROWS),
    "again": (("again", ("a", "b")), BAD_PATHS + ((),)),
    "use": (("use", ("a", "b"), "x"), BAD_PATHS + ((),), BAD_NAMES),
    "lazy": (("lazy", ("a", "b"), "x"), BAD_PATHS + ((),), BAD_NAMES + (None,)),
    "far": (
        ("far", "t", ("a", "b"), "x", "y"),
        BAD_NAMES + (None,), BAD_PATHS + ((),), BAD_NAMES + (None,), BAD_NAMES + (None,),
    ),
    "from": (("from", 0, ("a", "b"), (("x", "y"),)), BAD_DOTS, BAD_PATHS + ((),), BAD_PAIRS),
    "def": (("def", "x", ("a",), (let("y"),)), BAD_NAMES + (None,), tuple(x for x in BAD_XS if x != ()), BAD_ROWS),
    "box": (("box", "x", (let("y"),)), BAD_NAMES + (None,), BAD_ROWS),
    "give": (("give", ONE), BAD_EXPRESSIONS),
    "top": (("top", ("a",)), BAD_XS),
    "outer": (("outer", ("a",)), BAD_XS),
    "show": (("show", ("a",)), BAD_XS),
    "hide": (("hide", ("a",)), BAD_XS),
}
ONLY_IN_DEFS = ("give", "top", "outer")
ONLY_OWN = ("show", "hide")


def in_def(*rows):
    """A def that binds the names a and x and contains a def with the rows, so that outer may be declared."""
    return ("def", "f", ("a",), (let("x"), ("def", "g", (), rows)))


def wraps(word):
    """The ways in which a row of a word can stand in a module's own row."""
    if word in ONLY_OWN:
        return [lambda row: row]
    if word in ONLY_IN_DEFS:
        return [
            lambda row: in_def(row),
            lambda row: in_def(("when", ONE, (row,), ())),
            lambda row: in_def(("when", ONE, (), (let("b"), row))),
            lambda row: in_def(("try", (row,), ())),
            lambda row: in_def(("try", (), (row,))),
        ]
    return [
        lambda row: row,
        lambda row: ("when", ONE, (row,), ()),
        lambda row: ("when", ONE, (), (row,)),
        lambda row: ("try", (row,), ()),
        lambda row: ("try", (), (row,)),
        lambda row: ("def", "f", (), (let("b"), row)),
        lambda row: ("def", "f", (), (("try", (), (row,)),)),
        lambda row: ("def", "f", (), (("box", "b", (row,)),)),
        lambda row: ("box", "b", (row,)),
        lambda row: ("box", "b", (("def", "f", (), (row,)),)),
        lambda row: ("box", "b", (("box", "c", (row,)),)),
    ]


class EachPart(unittest.TestCase):
    def test_the_examples_are_valid_wherever_they_may_stand(self):
        for word, (row, *wrong) in EXAMPLES.items():
            self.assertEqual(len(row), len(wrong) + 1)
            for wrap in wraps(word):
                valid(self, (wrap(row),))

    def test_each_part_that_is_wrong(self):
        for word, (row, *wrong) in EXAMPLES.items():
            for at, values in enumerate(wrong, start=1):
                for value in values:
                    bad = row[:at] + (value,) + row[at + 1:]
                    for wrap in wraps(word):
                        with self.subTest(bad=bad):
                            self.assertEqual(fault(self, (say("a"), wrap(bad), say("a"))), 1)

    def test_each_row_with_too_few_or_too_many_items_or_another_word(self):
        for word, (row, *wrong) in EXAMPLES.items():
            others = [row[:-1], row + (None,), row + ((),), (word.upper(),) + row[1:], (word + " ",) + row[1:], list(row)]
            others += [("",) + row[1:], ((word,),) + row[1:], ([word],) + row[1:], (word.encode(),) + row[1:], row[:1]]
            for bad in others:
                for wrap in wraps(word):
                    with self.subTest(bad=bad):
                        self.assertEqual(fault(self, (say("a"), say("a"), wrap(bad))), 2)

    def test_values_that_are_no_rows(self):
        for bad in ODD + (None, "say", (), ("say",), (1, 2), ("rows",), ("num", 1), (("say", ONE),)):
            with self.subTest(bad=bad):
                self.assertEqual(fault(self, (bad,)), 0)
                self.assertEqual(fault(self, (let("x"), ("try", (bad,), ()))), 1)

    def test_values_that_are_no_tuple_of_rows(self):
        for bad in (None, True, 0, 5, "", "say", b"", [], {}, [("say", ONE)], {0: ("say", ONE)}, object(), set()):
            with self.subTest(bad=bad):
                self.assertIsNone(fault(self, bad))

    def test_no_rows_at_all_are_valid(self):
        valid(self, ())

    def test_the_first_bad_row_is_told(self):
        self.assertEqual(fault(self, (let("x"), ("say",), ("drop",))), 1)
        self.assertEqual(fault(self, (("give", ONE), ("say",))), 0)
        self.assertEqual(fault(self, (("show", ("a",)), ("show", ("b",)), ("say",))), 1)


class Limits(unittest.TestCase):
    def test_letters_of_a_name(self):
        for good in ("a", "z", "abcdefgh", "stuvwxyz", "ijklmnop", "qr"):
            valid(self, (let(good), say(good)))

    def test_names_of_a_path(self):
        for many in (1, 2, 3, 4):
            path = ("a", "b", "c", "d")[:many]
            valid(self, (("use", path, None), ("use", path, "x"), ("lazy", path, "x"), ("again", path)))
            valid(self, (("far", "t", path, "x", "y"), ("from", 0, path, "*"), ("from", 3, path, (("x", "y"),))))

    def test_names_of_a_path_may_be_equal(self):
        valid(self, (("use", ("a", "a", "a"), None),))

    def test_numbers(self):
        for good in (-9999, -1, 0, 1, 9999):
            valid(self, (("say", ("num", good)),))
        for bad in BAD_NUMBERS:
            with self.subTest(bad=bad):
                self.assertEqual(fault(self, (("say", ("num", bad)),)), 0)

    def test_names_in_expressions(self):
        for bad in BAD_NAMES + (None,):
            self.assertEqual(fault(self, (("say", ("name", bad)),)), 0)
            self.assertEqual(fault(self, (("say", ("dot", ONE, bad)),)), 0)

    def test_expressions_in_expressions(self):
        for bad in BAD_EXPRESSIONS:
            for e in (
                ("dot", bad, "x"), ("call", bad, ()), ("call", ONE, (bad,)), ("call", ONE, (ONE, ONE, bad)),
                ("plus", bad, ONE), ("plus", ONE, bad), ("less", bad, ONE), ("less", ONE, bad),
            ):
                with self.subTest(e=e):
                    self.assertEqual(fault(self, (("say", e),)), 0)

    def test_expressions_of_a_call(self):
        for many in (0, 1, 2, 3):
            valid(self, (("say", ("call", name("f"), (ONE,) * many)),))
        for bad in ((ONE,) * 4, [ONE], [], None, ONE, "", {}):
            self.assertEqual(fault(self, (("say", ("call", name("f"), bad)),)), 0)

    def test_depth_of_expressions(self):
        deeper = (
            lambda e: ("dot", e, "x"), lambda e: ("call", e, ()), lambda e: ("call", ONE, (e,)), lambda e: ("plus", e, ONE),
            lambda e: ("plus", ONE, e), lambda e: ("less", e, ONE), lambda e: ("less", ONE, e),
        )
        for first in deeper:
            for last in deeper:
                for leaf in (ONE, name("x")):
                    four = first(last(first(leaf)))
                    valid(self, (("say", four), ("let", "x", four), ("set", four, "x", four), ("when", four, (), ())))
                    valid(self, (("def", "f", (), (("give", four),)),))
                    self.assertEqual(fault(self, (("say", last(four)),)), 0)
                    self.assertEqual(fault(self, (("when", last(four), (), ()),)), 0)

    def test_expressions_without_end(self):
        e = ONE
        for _ in range(5000):
            e = ("plus", e, ONE)
        self.assertEqual(fault(self, (let("x"), ("say", e))), 1)

    def test_names_of_show_and_of_a_def(self):
        six = ("a", "b", "c", "d", "e", "f")
        for many in range(1, 7):
            valid(self, (("show", six[:many]),))
            valid(self, (("hide", six[:many]),))
            valid(self, (("def", "x", six[:many], ()),))
            valid(self, (("def", "x", (), (("top", six[:many]),)),))
            valid(self, (("def", "x", six[:many], (("def", "y", (), (("outer", six[:many]),)),)),))
        valid(self, (("def", "x", (), ()),))

    def test_pairs(self):
        for many in range(1, 7):
            valid(self, (("from", 0, ("a",), (("x", "y"),) * many),))
        valid(self, (("from", 0, ("a",), (("x", "x"), ("y", "x"))),))

    def test_dots(self):
        for dots in range(4):
            valid(self, (("from", dots, ("a",), (("x", "y"),)), ("from", dots, ("a",), "*")))
        for dots in range(1, 4):
            valid(self, (("from", dots, (), (("x", "y"),)), ("from", dots, (), "*")))
        self.assertEqual(fault(self, (("from", 0, (), "*"),)), 0)
        self.assertEqual(fault(self, (("from", 0, (), (("x", "y"),)),)), 0)
        for dots in (1, 2, 3):
            for bad in BAD_PATHS:
                self.assertEqual(fault(self, (("from", dots, bad, "*"),)), 0)

    def test_depth_of_rows(self):
        deeper = (
            lambda *rows: ("when", ONE, rows, ()), lambda *rows: ("when", ONE, (), rows), lambda *rows: ("try", rows, ()),
            lambda *rows: ("try", (), rows), lambda *rows: ("def", "f", (), rows), lambda *rows: ("box", "b", rows),
        )
        for first in deeper:
            for last in deeper:
                four = first(last(first(let("x"))))
                valid(self, (let("x"), four))
                valid(self, (first(last(first(last()))),))
                self.assertEqual(fault(self, (let("x"), last(four))), 1)
                self.assertEqual(fault(self, (let("x"), first(last(first(last(let("x"))))))), 1)

    def test_rows_without_end(self):
        row = let("x")
        for _ in range(5000):
            row = ("try", (row,), ())
        self.assertEqual(fault(self, (row,)), 0)

    def test_forty_rows(self):
        valid(self, (let("x"),) * 40)
        self.assertIsNone(fault(self, (let("x"),) * 41))
        self.assertIsNone(fault(self, (let("x"),) * 100))

    def test_forty_rows_with_nested_ones(self):
        many = (let("x"),)
        for row, inside in (
            (("when", ONE, many * 20, many * 19), 39), (("try", many * 10, many * 29), 39),
            (("def", "f", (), many * 39), 39), (("box", "b", (("def", "f", (), (("try", many * 18, many * 19),)),)), 39),
        ):
            with self.subTest(row=row[0]):
                valid(self, (row,))
                self.assertIsNone(fault(self, (row, let("x"))))

    def test_a_bad_row_behind_too_many_is_told(self):
        self.assertEqual(fault(self, (let("x"),) * 45 + (("say",),)), 45)
        self.assertEqual(fault(self, (("box", "b", (let("x"),) * 60), ("give", ONE))), 1)


class WhereRowsStand(unittest.TestCase):
    def test_give_top_and_outer_only_in_defs(self):
        for row in (("give", ONE), ("top", ("x",)), ("outer", ("a",))):
            for bad in (
                row, ("when", ONE, (row,), ()), ("try", (), (row,)), ("box", "b", (row,)),
                in_def(("box", "b", (row,))), in_def(("box", "b", (("when", ONE, (row,), ()),))),
                in_def(("try", (("box", "b", (row,)),), ())),
            ):
                with self.subTest(bad=bad):
                    self.assertEqual(fault(self, (let("x"), bad)), 1)

    def test_give_and_top_in_a_def_in_a_box(self):
        valid(self, (("box", "b", (("def", "f", (), (("top", ("x",)), ("give", ONE))),)),))

    def test_show_and_hide_only_among_own_rows(self):
        for row in (("show", ("a",)), ("hide", ("a",))):
            valid(self, (let("x"), row))
            for bad in (
                ("when", ONE, (row,), ()), ("when", ONE, (), (row,)), ("try", (row,), ()), ("try", (), (row,)),
                ("def", "f", (), (row,)), ("box", "b", (row,)),
            ):
                self.assertEqual(fault(self, (let("x"), bad)), 1)

    def test_show_and_hide_at_most_once(self):
        valid(self, (("show", ("a",)), let("x"), ("hide", ("b",))))
        valid(self, (("hide", ("a", "b")), ("show", ("c",))))
        self.assertEqual(fault(self, (("show", ("a",)), let("x"), ("show", ("b",)))), 2)
        self.assertEqual(fault(self, (("hide", ("a",)), let("x"), ("hide", ("b",)))), 2)
        self.assertEqual(fault(self, (("hide", ("a",)), ("show", ("b",)), let("x"), ("hide", ("c",)))), 3)

    def test_no_name_in_both_show_and_hide(self):
        self.assertEqual(fault(self, (("show", ("a", "b")), let("x"), ("hide", ("c", "b")))), 2)
        self.assertEqual(fault(self, (let("x"), ("hide", ("a",)), ("show", ("a",)))), 2)

    def test_show_and_hide_go_with_all_other_rows(self):
        valid(self, (let("a"), ("drop", "b"), ("show", ("a", "c")), ("hide", ("b",)), let("a"), ("drop", "b"), say("a")))
        valid(self, (("use", ("a", "b"), None), ("hide", ("a",)), ("show", ("b",)), ("again", ("a", "b")), let("b")))

    def test_from_all_only_in_the_block_of_a_module(self):
        row = ("from", 0, ("a",), "*")
        for good in (row, ("when", ONE, (row,), (row,)), ("try", (("when", ONE, (), (row,)),), (row,))):
            valid(self, (good,))
        for bad in (
            ("def", "f", (), (row,)), ("box", "b", (row,)), ("def", "f", (), (("when", ONE, (row,), ()),)),
            ("box", "b", (("try", (), (row,)),)), ("when", ONE, (("box", "b", (row,)),), ()),
        ):
            self.assertEqual(fault(self, (let("x"), bad)), 1)


class Declarations(unittest.TestCase):
    def test_declared_names_are_not_among_the_names_of_the_def(self):
        self.assertEqual(fault(self, (let("x"), ("def", "f", ("x",), (("top", ("x",)),)))), 1)
        self.assertEqual(fault(self, (("def", "f", ("y", "x"), (("try", (), (("top", ("z", "x")),)),)),)), 0)
        inner = ("def", "g", ("x",), (("outer", ("x",)),))
        self.assertEqual(fault(self, (("def", "f", ("x",), (inner,)),)), 0)
        valid(self, (("def", "f", ("x",), (("def", "g", (), (("top", ("x",)),)),)),))

    def test_no_name_with_both_top_and_outer(self):
        for rows in (
            (("top", ("x",)), ("outer", ("x",))), (("outer", ("x",)), ("when", ONE, (), (("top", ("y", "x")),))),
        ):
            self.assertEqual(fault(self, (("def", "f", ("x",), (("def", "g", (), rows),)),)), 0)
        valid(self, (("def", "f", ("x", "y"), (("def", "g", (), (("top", ("x",)), ("outer", ("y",)))),)),))

    def test_names_may_be_declared_again_with_the_same_word(self):
        valid(self, (("def", "f", ("x",), (("def", "g", (), (("outer", ("x",)), ("outer", ("x",)))),)),))
        valid(self, (("def", "f", (), (("top", ("x",)), ("when", ONE, (("top", ("x", "y")),), ()))),))

    def test_outer_needs_an_enclosing_def_that_binds_the_name(self):
        g = ("def", "g", (), (("outer", ("x",)),))
        for bad in (
            g, ("def", "f", (), (g,)), ("def", "x", (), (g,)), ("def", "f", ("y",), (g,)), ("box", "x", (g,)),
            ("def", "f", (), (("box", "b", (let("x"), g)),)), ("def", "f", (), (("say", name("x")), g)),
            ("def", "f", (), (("def", "h", ("x",), ()), g)), ("def", "f", (), (("box", "b", (let("x"),)), g)),
            ("def", "f", (), (("top", ("x",)), let("x"), g)), ("def", "g", (), (let("x"), ("outer", ("x",)))),
            ("def", "f", ("x",), (("def", "g", (), (("outer", ("x", "y")),)),)),
        ):
            with self.subTest(bad=bad):
                self.assertEqual(fault(self, (let("x"), bad)), 1)

    def test_what_binds_for_an_outer(self):
        g = ("def", "g", (), (("outer", ("x",)),))
        for row in (
            let("x"), ("drop", "x"), ("def", "x", (), ()), ("box", "x", ()), ("use", ("a", "b"), "x"),
            ("use", ("x", "b"), None), ("lazy", ("a",), "x"), ("far", "t", ("a",), "y", "x"),
            ("from", 0, ("a",), (("y", "z"), ("y", "x"))),
        ):
            with self.subTest(row=row):
                for rows in ((row, g), (g, row), (("when", ONE, (), (row,)), g), (("box", "b", (g,)), ("try", (row,), ()))):
                    valid(self, (("def", "f", (), rows),))
        for row in (
            ("use", ("a", "x"), None), ("use", ("x",), "y"), ("lazy", ("x",), "y"), ("far", "x", ("x",), "x", "y"),
            ("from", 0, ("x",), (("x", "y"),)), ("set", name("x"), "x", name("x")), ("again", ("x",)), say("x"),
        ):
            with self.subTest(row=row):
                self.assertEqual(fault(self, (("def", "f", (), (row, g)),)), 0)

    def test_outer_may_reach_over_several_defs(self):
        inner = ("def", "h", (), (("outer", ("x",)),))
        for rows in ((), (("outer", ("x",)), let("x")), (("top", ("x",)),)):
            valid(self, (("def", "f", ("x",), (("def", "g", (), rows + (inner,)),)),))
        self.assertEqual(fault(self, (("def", "f", (), (("def", "g", (), (inner,)), ("top", ("x",)))),)), 0)

    def test_an_enclosing_def_binds_its_own_names_only_inside_itself(self):
        f = ("def", "f", ("x",), ())
        g = ("def", "g", (), (("def", "h", (), (("outer", ("x",)),)),))
        self.assertEqual(fault(self, (f, g)), 1)


if __name__ == "__main__":
    unittest.main()

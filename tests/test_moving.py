"""Point 16: each reason why a name cannot be moved, in their order, and the interface of `moved`."""

import unittest

from modulehall.entries import entries
from modulehall.errors import BadName, BadNumber, BadPath, BadShelf, NoModule
from modulehall.moving import Cant, Moved, moved
from modulehall.worlds import World
from tests.kit import (
    ONE, call, dot, let, name, num, package, path, plain, plus, say, shelf, take, take_all, tell, use, wide,
)
from tests.test_meanings import BINDING
from tests.test_worlds import BAD_MOST

M, O = ("m",), ("o",)
DEF = ("def", "x", (), ())


def move(modules, x="x", old="m", new="o", most=500, **places):
    return moved(shelf(modules, **places), path(old), x, path(new), most=most)


def why(modules, *given, **named):
    """The word and the dotted path of the reason why x of m cannot be moved to o, or None if it is moved."""
    result = move(modules, *given, **named)
    return None if isinstance(result, Moved) else (result.word, ".".join(result.path))


def why_of(*rows, other=(), sort="plain", **others):
    """The same for a module m of these rows and a module o of others."""
    return why({"m": plain(*rows), "o": (sort, tuple(other)), **others})


class Bound(unittest.TestCase):
    def test_let_def_and_box_can_be_moved(self):
        for row in (let("x"), DEF, ("box", "x", ()), ("def", "x", ("x",), (let("x"),)), ("box", "x", (let("x"),))):
            with self.subTest(row=row):
                self.assertIsNone(why_of(row))
                self.assertIsNone(why_of(let("y"), row, say("x")))

    def test_no_binding(self):
        for rows in ((), (let("y"),), (("try", (say("x"),), ()),), (("box", "b", (let("x"),)),), (("def", "f", ("x",), ()),)):
            self.assertEqual(why_of(*rows), ("bound", "m"))

    def test_bound_by_another_kind_of_row(self):
        for row, _ in BINDING:
            if row[0] not in ("let", "def", "box"):
                with self.subTest(row=row):
                    self.assertEqual(why_of(row), ("bound", "m"))

    def test_not_directly_among_the_own_rows(self):
        for row in (let("x"), DEF, ("box", "x", ())):
            for around in (
                ("when", ONE, (row,), ()), ("when", ONE, (), (row,)), ("try", (row,), ()), ("try", (), (row,)),
                ("def", "f", (), (("top", ("x",)), row)), ("box", "b", (("def", "f", (), (("top", ("x",)), row)),)),
            ):
                with self.subTest(around=around):
                    self.assertEqual(why_of(around), ("bound", "m"))

    def test_twice(self):
        for first in (let("x"), DEF, ("box", "x", ()), ("drop", "x"), use("b", "x"), ("from", 0, ("b",), (("y", "x"),))):
            self.assertEqual(why_of(let("x"), first), ("bound", "m"))
            self.assertEqual(why_of(first, ("box", "x", ())), ("bound", "m"))
            self.assertEqual(why_of(let("x"), ("when", num(0), (first,), ())), ("bound", "m"))
        self.assertEqual(why_of(let("x"), ("def", "f", (), (("top", ("x",)), let("x")))), ("bound", "m"))
        self.assertEqual(why_of(("def", "x", (), (("top", ("x",)), let("x")))), ("bound", "m"))

    def test_a_from_all_besides(self):
        self.assertEqual(why_of(let("x"), take_all("b"), b=plain(let("x"))), ("bound", "m"))
        self.assertEqual(why_of(let("x"), take_all("b"), b=plain(("show", ("x",)))), ("bound", "m"))
        self.assertEqual(why_of(take_all("b"), b=plain(let("x"))), ("bound", "m"))
        self.assertIsNone(why_of(let("x"), take_all("b"), b=plain(let("x"), ("hide", ("x",)))))
        self.assertIsNone(why_of(let("x"), take_all("b"), b=plain(let("y"))))

    def test_a_module_below_besides(self):
        modules = {"m": package(let("x")), "m.x": plain(), "o": plain()}
        self.assertEqual(why(modules), ("bound", "m"))
        self.assertEqual(why({**modules, "m": package()}), ("bound", "m"))
        self.assertIsNone(why({**modules, "m": plain(let("x"))}))
        self.assertIsNone(why({"m": package(let("x")), "o": plain()}, last={"m.x": plain()}))
        self.assertEqual(why({"m": wide(let("x")), "o": plain()}, last={"m.x": plain()}), ("bound", "m"))


class Hidden(unittest.TestCase):
    def test_hidden_names(self):
        self.assertEqual(why_of(let("x"), ("hide", ("x",))), ("hidden", "m"))
        self.assertEqual(why_of(("hide", ("y", "x")), DEF), ("hidden", "m"))
        self.assertIsNone(why_of(let("x"), ("hide", ("y",))))
        self.assertIsNone(why_of(let("x"), ("show", ("x",))))
        self.assertIsNone(why_of(let("x"), ("show", ("y",))))

    def test_a_name_that_the_other_module_hides_falls(self):
        self.assertEqual(why_of(let("x"), other=(("hide", ("x",)),)), ("falls", "m"))


class TakenName(unittest.TestCase):
    def test_each_kind_of_row(self):
        for row, _ in BINDING:
            with self.subTest(row=row):
                self.assertEqual(why_of(let("x"), other=(row,)), ("taken", "o"))
                self.assertEqual(why_of(let("x"), other=(("try", (), (row,)),)), ("taken", "o"))
                self.assertEqual(why_of(let("x"), other=(("def", "f", (), (("top", ("x",)), row)),)), ("taken", "o"))
                self.assertIsNone(why_of(let("x"), other=(("def", "f", (), (row,)),)))

    def test_from_all(self):
        self.assertEqual(why_of(let("x"), other=(take_all("b"),), b=plain(let("x"))), ("taken", "o"))
        self.assertEqual(why_of(let("x"), other=(take_all("m"),)), ("taken", "o"))
        self.assertIsNone(why_of(let("x"), other=(take_all("b"),), b=plain(let("y"))))

    def test_a_module_below(self):
        for sort in ("package", "wide"):
            self.assertEqual(why({"m": plain(let("x")), "o": (sort, ()), "o.x": plain()}), ("taken", "o"))
        self.assertIsNone(why({"m": plain(let("x")), "o": plain(), "o.x": plain()}))

    def test_other_names_do_not_matter(self):
        self.assertIsNone(why_of(let("x"), other=(let("y"), ("box", "b", (let("x"),)), use("o", "z"))))


class Leans(unittest.TestCase):
    def test_reads_a_name_that_is_bound_otherwise(self):
        for row, _ in BINDING:
            binding = rename(row, "y")
            if not leads(binding):
                with self.subTest(row=binding):
                    self.assertEqual(why_of(binding, ("def", "x", (), (say("y"),))), ("leans", "m"))

    def test_reads_a_name_that_is_led_along(self):
        for row, _ in BINDING:
            binding = rename(row, "y")
            if leads(binding):
                with self.subTest(row=binding):
                    # Modules that are not found let o fall, where it is empty before.
                    self.assertIn(why_of(binding, ("def", "x", (), (say("y"),))), (None, ("falls", "o")))
                    self.assertIsNone(why_of(binding, ("def", "x", (), (say("y"),)), other=(say("none"),)))
                    for around in (
                        ("when", ONE, (binding,), ()), ("try", (binding,), ()), ("try", (), (binding,)),
                        ("def", "f", (), (("top", ("y",)), binding)),
                    ):
                        self.assertEqual(why_of(around, ("def", "x", (), (say("y"),))), ("leans", "m"))

    def test_a_use_without_a_name(self):
        self.assertEqual(why_of(use("y"), ("def", "x", (), (say("y"),))), ("leans", "m"))
        self.assertEqual(why_of(use("y.z"), ("def", "x", (), (say("y"),))), ("leans", "m"))
        self.assertIsNone(why_of(use("y", "y"), ("def", "x", (), (say("y"),)), y=plain()))

    def test_bound_twice(self):
        for first in (use("b", "y"), ("from", 0, ("b",), (("z", "y"),))):
            for second in (use("b", "y"), take("b", "y"), let("y"), ("when", num(0), (use("b", "y"),), ())):
                self.assertEqual(why_of(first, second, ("def", "x", (), (say("y"),))), ("leans", "m"))
        row = ("from", 0, ("b",), (("y", "y"), ("z", "y")))
        self.assertEqual(why_of(row, ("def", "x", (), (say("y"),))), ("leans", "m"))

    def test_bound_besides_by_a_from_all_or_a_module_below(self):
        rows = (use("b", "y"), ("def", "x", (), (say("y"),)))
        self.assertIsNone(why_of(*rows, take_all("c"), b=plain(), c=plain(let("z"))))
        self.assertEqual(why_of(*rows, take_all("c"), b=plain(), c=plain(let("y"))), ("leans", "m"))
        modules = {"m": package(*rows), "o": plain(), "b": plain(), "m.y": plain()}
        self.assertEqual(why(modules), ("leans", "m"))
        self.assertIsNone(why({**modules, "m": plain(*rows)}))

    def test_bound_by_a_from_all_or_a_module_below_alone(self):
        row = ("def", "x", (), (say("y"),))
        self.assertEqual(why_of(row, take_all("b"), b=plain(use("b", "y"))), ("leans", "m"))
        self.assertEqual(why({"m": package(row), "m.y": plain(), "o": plain()}), ("leans", "m"))

    def test_where_a_name_is_read(self):
        deep = ("def", "f", (), (("box", "b", (say("y"),)),))
        for row in (
            ("let", "x", name("y")), ("let", "x", plus(ONE, dot("y", "z"))), ("def", "x", (), (("give", name("y")),)),
            ("def", "x", ("a",), (("when", num(0), (), (say("y"),)),)), ("box", "x", (deep,)), ("def", "x", (), (deep,)),
            ("box", "x", (say("y"),)), ("box", "x", (let("y"), say("y"))), ("def", "x", (), (("set", name("y"), "z", ONE),)),
            ("def", "x", (), (("top", ("y",)), say("y"))), ("def", "x", ("y",), (("def", "f", (), (("top", ("y",)), say("y"))),)),
        ):
            with self.subTest(row=row):
                self.assertEqual(why_of(let("y"), row), ("leans", "m"))

    def test_names_that_are_not_read_as_names_of_the_module(self):
        for row in (
            ("def", "x", ("y",), (("give", name("y")),)), ("def", "x", (), (let("y"), say("y"))),
            ("def", "x", (), (("drop", "y"),)),
            ("def", "x", (), (("say", dot("o", "y")),)), ("box", "x", (let("y"),)),
            ("def", "x", (), (use("y.z", "k"), ("again", ("y",)))),
            ("def", "x", ("y",), (("def", "f", (), (("outer", ("y",)), say("y"), let("y"))),)),
            ("def", "x", (), (("top", ("y",)),)),
        ):
            with self.subTest(row=row):
                self.assertIsNone(why_of(let("y"), row))

    def test_bound_by_top_inside_the_row(self):
        for inner in (let("y"), ("drop", "y"), use("b", "y"), take("b", "y"), ("def", "y", (), ())):
            for row in (
                ("def", "x", (), (("top", ("y",)), inner)), ("box", "x", (("def", "f", (), (("top", ("y",)), inner)),)),
                ("def", "x", ("y",), (("def", "f", (), (inner, ("top", ("y",)))),)),
            ):
                with self.subTest(row=row):
                    self.assertEqual(why_of(row), ("leans", "m"))
                    self.assertEqual(why_of(use("b", "y"), row), ("leans", "m"))

    def test_its_own_name_and_names_without_a_binding(self):
        self.assertIsNone(why_of(("def", "x", (), (("give", call("x")),))))
        self.assertIsNone(why_of(("def", "x", (), (say("y"), say("z")))))

    def test_one_name_is_enough(self):
        row = ("def", "x", (), (("say", plus(name("a"), name("b"))), say("c")))
        froms = take("k", "a", "c"), use("k", "b")
        self.assertIsNone(why_of(*froms, row, k=plain(let("a"), let("c"))))
        self.assertEqual(why_of(take("k", "a"), use("k", "b"), let("c"), row, k=plain(let("a"))), ("leans", "m"))


class TakenLeaned(unittest.TestCase):
    """The row of x reads k, which m binds by a row; o binds k, too."""

    def taken(self, row, *other, **others):
        return why_of(row, ("def", "x", (), (say("k"),)), other=other, **others)

    def test_otherwise_bound(self):
        for row, _ in BINDING:
            binding = rename(row, "k")
            for mine in (use("q", "k"), ("from", 0, ("r",), (("q", "k"),))):
                with self.subTest(row=binding, mine=mine):
                    self.assertEqual(self.taken(mine, binding), ("taken", "o"))
                    self.assertEqual(self.taken(mine, ("when", num(0), (), (binding,))), ("taken", "o"))

    def test_the_same_module(self):
        others = {"r": plain(use("p.q", "q")), "p": package(), "p.q": plain()}
        ways = (
            use("p.q", "k"), ("lazy", ("p", "q"), "k"), ("from", 0, ("p",), (("q", "k"),)), ("from", 1, ("p",), (("q", "k"),)),
            ("from", 0, ("r",), (("q", "k"),)),
        )
        for mine in ways:
            for theirs in ways:
                modules = {"m": plain(mine, ("def", "x", (), (say("k"),))), "o": plain(theirs), **others}
                with self.subTest(mine=mine, theirs=theirs):
                    if mine[0] == "lazy":
                        self.assertEqual(why(modules), ("leans", "m"))
                        continue
                    self.assertIsNone(why(modules))
                    self.assertIsNone(why({**modules, "o": plain(("try", (), (theirs,)))}))
                    self.assertIsNone(why({**modules, "o": plain(("def", "f", (), (("top", ("k",)), theirs)))}))
                    self.assertEqual(why({**modules, "o": plain(theirs, theirs)}), ("taken", "o"))
                    self.assertEqual(why({**modules, "o": plain(theirs, ("try", (), (let("k"),)))}), ("taken", "o"))

    def test_the_same_module_by_a_use_without_a_name_and_a_from_all(self):
        row = use("k", "k")
        self.assertIsNone(self.taken(row, use("k"), k=plain()))
        self.assertIsNone(self.taken(row, use("k.j"), k=package(), **{"k.j": plain()}))
        self.assertEqual(self.taken(use("j", "k"), use("k"), k=plain(), j=plain()), ("taken", "o"))
        self.assertIsNone(self.taken(row, take_all("r"), k=plain(), r=plain(use("k", "k"))))
        self.assertEqual(self.taken(row, take_all("r"), k=plain(), r=plain(let("k"))), ("taken", "o"))

    def test_a_module_that_is_not_found(self):
        modules = {"m": plain(use("none", "k"), ("def", "x", (), (say("k"),))), "o": plain(use("none", "k"))}
        self.assertIsNone(why(modules))
        self.assertEqual(why({**modules, "o": plain(use("nothing", "k"))}), ("taken", "o"))

    def test_the_same_name_of_the_same_path(self):
        for modules in ({"r": plain(let("q"))}, {"r": plain()}, {}, {"r": plain(let("q"), let("q"))}):
            mine = ("from", 0, ("r",), (("q", "k"),))
            for theirs in (mine, ("from", 1, ("r",), (("q", "k"),)), ("from", 0, ("r",), (("j", "j"), ("q", "k")))):
                with self.subTest(modules=modules, theirs=theirs):
                    self.assertIsNone(self.taken(mine, ("try", (theirs,), ()), **modules))
                    self.assertEqual(self.taken(mine, ("try", (theirs, theirs), ()), **modules), ("taken", "o"))
            for theirs in (
                ("from", 0, ("r",), (("k", "k"),)), ("from", 0, ("s",), (("q", "k"),)), ("from", 2, ("r",), (("q", "k"),)),
                ("from", 0, ("r",), (("q", "k"), ("q", "k"))), ("from", 0, ("r",), (("j", "k"), ("q", "j"))),
            ):
                with self.subTest(modules=modules, theirs=theirs):
                    self.assertEqual(self.taken(mine, ("try", (theirs,), ()), **modules), ("taken", "o"))

    def test_the_same_name_of_the_same_path_and_more(self):
        mine = ("from", 0, ("r",), (("q", "k"),))
        modules = {"m": plain(mine, ("def", "x", (), (say("k"),))), "r": plain(let("q")), "o": package(mine)}
        self.assertIsNone(why(modules))
        self.assertEqual(why({**modules, "o.k": plain()}), ("taken", "o"))
        modules["o"] = package(mine, take_all("s"))
        self.assertIsNone(why({**modules, "s": plain(let("z"))}))
        self.assertEqual(why({**modules, "s": plain(let("k"))}), ("taken", "o"))

    def test_froms_that_lead_nowhere_have_no_path(self):
        mine = ("from", 2, ("r",), (("q", "k"),))
        self.assertEqual(self.taken(mine, say("none"), mine), ("taken", "o"))

    def test_the_same_object_by_another_way_is_taken(self):
        mine = take("r", "k")
        modules = {"r": plain(let("k")), "s": plain(take("r", "k"))}
        self.assertEqual(self.taken(mine, take("s", "k"), **modules), ("taken", "o"))
        self.assertEqual(self.taken(mine, take_all("r"), **modules), ("taken", "o"))
        self.assertEqual(self.taken(take("o", "k"), let("k")), ("taken", "o"))

    def test_a_module_below_is_no_binding_but_makes_a_second_one(self):
        rows = use("q", "k"), ("def", "x", (), (say("k"),))
        modules = {"m": plain(*rows), "o": package(), "o.k": plain(), "q": plain()}
        self.assertIsNone(why(modules))
        self.assertEqual(why({**modules, "o": package(use("q", "k"))}), ("taken", "o"))

    def test_names_that_the_row_does_not_read(self):
        self.assertIsNone(why_of(use("q", "k"), DEF, other=(let("k"),), q=plain()))


class Many(unittest.TestCase):
    def test_the_other_module(self):
        row = ("def", "x", (), (say("k"), say("l")))
        for filled, expected in ((34, None), (35, ("many", "o"))):
            rows = [let("a")] * filled
            result = why_of(use("q", "k"), take("q", "l"), row, other=rows + [let("b")], q=plain(let("l")))
            self.assertEqual(result, expected)

    def test_nested_rows_count(self):
        for filled, expected in ((36, None), (37, ("many", "o"))):
            row = ("box", "x", (("try", (), (tell(1),)),))
            self.assertEqual(why_of(row, other=(("def", "f", (), (tell(1),) * filled),)), expected)

    def test_a_module_that_takes_the_name(self):
        modules = {"m": plain(let("x"), let("a"), let("b")), "o": plain()}
        row = take("m", "a", "x", "b")
        for filled, expected in ((37, None), (38, ("many", "n"))):
            self.assertEqual(why({**modules, "n": plain(row, *[tell(1)] * filled)}), expected)
            around = ("def", "f", (), (row, *[tell(1)] * (filled - 1)))
            self.assertEqual(why({**modules, "n": plain(around)}), expected)

    def test_the_first_in_order(self):
        full = plain(take("m", "a", "x"), *[tell(1)] * 39)
        modules = {"m": plain(let("x"), let("a")), "o": plain(*[tell(1)] * 40), "n": full, "z": full, "a": plain()}
        self.assertEqual(why(modules), ("many", "n"))
        self.assertEqual(why({**modules, "n": plain()}), ("many", "o"))
        self.assertEqual(why({**modules, "n": plain(), "o": plain()}), ("many", "z"))

    def test_modules_that_are_not_found_do_not_count(self):
        full = plain(take("m", "a", "x"), *[tell(1)] * 39)
        self.assertIsNone(why({"m": plain(let("x"), let("a")), "o": plain(), "k.n": full}, last={"o": full}))

    def test_the_old_module_never_grows(self):
        self.assertIsNone(why_of(let("x"), *[tell(1)] * 39))


class Falls(unittest.TestCase):
    def test_no_longer_whole(self):
        self.assertEqual(why_of(let("x"), other=(say("none"),)), ("falls", "m"))
        self.assertEqual(why_of(let("x"), other=(use("m", "m"),)), ("falls", "o"))
        self.assertEqual(why_of(let("x"), other=(("when", num(0), (), (use("m", "m"),)),)), ("falls", "o"))

    def test_the_first_in_order(self):
        modules = {"m": plain(let("x")), "o": plain(say("none")), "a": plain(use("m", "m")), "n": plain(take("m", "x"))}
        self.assertEqual(why(modules), ("falls", "a"))
        self.assertEqual(why({**modules, "a": plain()}), ("falls", "m"))
        modules = {"m": package(let("x")), "o": plain(say("none")), "m.a": plain(), "l": plain(use("m.a"))}
        self.assertEqual(why(modules), ("falls", "l"))

    def test_modules_that_did_not_load_whole_before_do_not_count(self):
        modules = {"m": plain(let("x"), say("none")), "o": plain(say("none")), "a": plain(use("m", "m"))}
        self.assertIsNone(why(modules))
        self.assertEqual(why({**modules, "n": plain(("try", (use("m", "m"),), (tell(1),)))}), None)

    def test_modules_that_load_whole_only_afterwards_do_not_count(self):
        self.assertIsNone(why_of(let("x"), n=plain(take("o", "x"), tell(1))))

    def test_other_outputs(self):
        self.assertEqual(why_of(let("x"), tell(1), other=(tell(2),)), ("falls", "m"))
        self.assertEqual(why_of(let("x"), other=(tell(2),)), ("falls", "m"))
        self.assertIsNone(why_of(use("o", "o"), let("x"), other=(tell(2),)))
        user = plain(use("o", "o"), ("try", (("say", dot("o", "x")),), (tell(2),)))
        self.assertEqual(why_of(let("x"), n=user), ("falls", "n"))
        self.assertIsNone(why_of(let("x", 2), n=user))

    def test_other_outputs_in_another_module(self):
        # The output of o comes before that of n, where there was only that of n before.
        modules = {"m": plain(let("x")), "o": plain(tell(2)), "a": plain(tell(1), use("m", "m"))}
        self.assertEqual(why(modules), ("falls", "a"))
        modules = {"m": plain(use("o", "o"), let("x"), say("x")), "o": plain(tell(2)), "n": plain(use("m", "m"), tell(1))}
        self.assertIsNone(why(modules))

    def test_the_order_of_outputs(self):
        modules = {"m": plain(tell(1), let("x"), use("o", "o")), "o": plain(tell(2))}
        self.assertIsNone(why(modules))
        self.assertEqual(why({**modules, "m": plain(let("x"), tell(1), use("o", "o"))}), ("falls", "m"))

    def test_the_module_in_which_a_value_is_said_does_not_matter(self):
        row = ("def", "x", (), (tell(1), ("give", num(2))))
        user = plain(use("m", "m"), ("say", call(dot("m", "x"))))
        self.assertIsNone(why({"m": plain(row, ("say", call("x"))), "o": plain(), "n": user}))

    def test_outputs_of_the_other_module_itself(self):
        # It has the box now, and says what is said in it.
        self.assertEqual(why({"m": plain(("box", "x", (tell(1),))), "o": plain()}), ("falls", "o"))

    def test_a_module_that_is_no_longer_loaded(self):
        # The from in n is one of o afterwards, so that what m says is missing.
        modules = {"m": plain(let("x"), tell(1)), "o": plain(), "n": plain(take("m", "x"))}
        self.assertEqual(why(modules), ("falls", "n"))
        self.assertIsNone(why({**modules, "n": plain(take("m", "x"), use("m", "m"))}))

    def test_defs_and_boxes_are_compared_by_their_names(self):
        for row in (DEF, ("box", "x", ())):
            modules = {"m": plain(("def", "f", (), ()), row, say("x"), say("f")), "o": plain(("def", "g", (), ()), ("box", "h", ()))}
            self.assertIsNone(why(modules))
            self.assertIsNone(why({**modules, "n": plain(use("m", "m"), ("say", dot("m", "x")))}))

    def test_defs_of_other_names_differ(self):
        for y in (("def", "y", (), ()), ("box", "y", ())):
            user = plain(use("m", "m"), use("o", "o"), ("try", (("say", dot("o", "x")),), (("say", dot("o", "y")),)))
            self.assertEqual(why({"m": plain(DEF), "o": plain(y), "n": user}), ("falls", "n"))

    def test_modules_in_outputs(self):
        modules = {"m": plain(use("m", "me"), use("o", "o"), ("def", "x", (), ()), say("me"), say("o")), "o": plain()}
        self.assertIsNone(why(modules))
        user = plain(use("o", "o"), ("try", (("let", "k", dot("o", "x")), say("o")), (use("n", "n"), say("n"))))
        self.assertEqual(why({**modules, "n": user}), ("falls", "n"))

    def test_rows_that_may_be_run(self):
        modules = {"m": plain(let("x")), "o": plain(let("a"), let("b"))}
        # Loading m takes one row before; afterwards the from, a, b and x: four.
        self.assertEqual(why(modules, most=3), ("falls", "m"))
        self.assertIsNone(why(modules, most=4))
        self.assertEqual(why(modules, most=2), ("falls", "m"))
        # Nothing with a row loads whole before, so that nothing can fall.
        self.assertIsNone(why(modules, most=0))

    def test_500_rows_unless_told_otherwise(self):
        # Loading z takes 494 rows and those behind the uses, and one more when x stands in o.
        many = {"n" + x: plain(*[tell(1)] * 40) for x in "abcdefghijkl"}
        uses = [use("n" + x, "x") for x in "abcdefghijkl"]
        for more, expected, before in ((5, None, "whole"), (6, ("falls", "z"), "whole"), (7, None, "fell")):
            modules = {**many, "z": plain(*uses, use("m", "m"), *[tell(1)] * more), "m": plain(let("x")), "o": plain()}
            given = shelf(modules)
            with self.subTest(more=more):
                self.assertEqual(dict(entries(given))[("z",)][0], before)
                result = moved(given, M, "x", O)
                self.assertEqual(result == Cant("falls", ("z",)), expected is not None)
                self.assertEqual(why(modules, most=500), expected)
                self.assertEqual(why(modules, most=499), {5: ("falls", "z")}.get(more))
                self.assertEqual(why(modules, most=501), {7: ("falls", "z")}.get(more))

    def test_a_far_finds_no_other_edition(self):
        rows = (let("x"), ("try", (("far", "only", O, "y", "z"),), (tell(1),)))
        self.assertIsNone(why({"m": plain(*rows), "o": plain(let("y"))}))


class Order(unittest.TestCase):
    """Each reason before the ones behind it."""

    def test_the_first_reason_is_told(self):
        rows = {
            "bound": let("x"), "hidden": ("hide", ("x",)), "leans": let("k"), "led": use("q", "k"),
            "row": ("def", "x", (), (say("k"),)),
        }
        full = [tell(1)] * 37
        taken, led_taken, failing = let("x"), let("k"), say("none")
        # From all reasons at once, one after another is taken away.
        cases = (
            (("bound", "row", "hidden", "leans"), [taken, led_taken, failing] + full, ("bound", "m")),
            (("row", "hidden", "leans"), [taken, led_taken, failing] + full, ("hidden", "m")),
            (("row", "leans"), [taken, led_taken, failing] + full, ("taken", "o")),
            (("row", "leans"), [led_taken, failing] + full, ("leans", "m")),
            (("row", "led"), [led_taken, failing] + full, ("taken", "o")),
            (("row", "led"), [failing] + full, ("many", "o")),
            (("row", "led"), [failing], ("falls", "m")),
            (("row", "led"), [], None),
        )
        for mine, theirs, expected in cases:
            with self.subTest(expected=expected):
                result = why_of(*[rows[each] for each in mine], other=theirs, q=plain())
                self.assertEqual(result, expected)


class Values(unittest.TestCase):
    def test_fields(self):
        given = shelf({"a": plain()})
        self.assertEqual(Moved(given).shelf, given)
        self.assertEqual(Moved(shelf=given).shelf, given)
        cant = Cant("bound", ("a", "b"))
        self.assertEqual((cant.word, cant.path), ("bound", ("a", "b")))
        cant = Cant(path=("a",), word="taken")
        self.assertEqual((cant.word, cant.path), ("taken", ("a",)))

    def test_equality(self):
        given = shelf({"a": plain()})
        self.assertTrue(Moved(given) == Moved(shelf({"a": plain()})))
        self.assertFalse(Moved(given) != Moved(shelf({"a": plain()})))
        self.assertFalse(Moved(given) == Moved(shelf({"b": plain()})))
        self.assertTrue(Moved(given) != Moved(shelf({"b": plain()})))
        self.assertTrue(Cant("bound", M) == Cant("bound", M))
        self.assertFalse(Cant("bound", M) == Cant("hidden", M))
        self.assertFalse(Cant("bound", M) == Cant("bound", O))
        self.assertTrue(Cant("bound", M) != Cant("bound", O))

    def test_equality_with_each_other_and_with_other_values(self):
        given = shelf({"a": plain()})
        for value in (None, True, 0, "bound", ("bound", M), ["bound", M], {}, given, object(), Cant("bound", M)):
            self.assertFalse(Moved(given) == value)
            self.assertFalse(value == Moved(given))
            self.assertTrue(Moved(given) != value)
        for value in (None, True, 0, "bound", ("bound", M), ["bound", M], {}, given, object(), Moved(given)):
            self.assertFalse(Cant("bound", M) == value)
            self.assertFalse(value == Cant("bound", M))
            self.assertTrue(Cant("bound", M) != value)

    def test_what_is_returned(self):
        modules = {"m": plain(let("x")), "o": plain()}
        self.assertIsInstance(move(modules), Moved)
        self.assertEqual(move(modules), move(modules))
        self.assertEqual(move(modules, "y"), Cant("bound", M))
        self.assertIsInstance(move(modules, "y").path, tuple)


class Interface(unittest.TestCase):
    def test_errors_in_their_order(self):
        good = shelf({"m": plain(let("x")), "o": plain(), "c.d": plain()})
        for bad in (None, True, 0, "", {}, {"home": {}}, World({"one": good}), Moved(good), object()):
            self.assertRaises(BadShelf, moved, bad, None, None, None, most=None)
        bad_paths = (None, True, 1, "m", (), [], ["m"], {}, ("M",), ("m", ""), ("m",) * 5, ([],), ((),), object(), set())
        for bad in bad_paths:
            self.assertRaises(BadPath, moved, good, bad, None, None, most=None)
            self.assertRaises(BadPath, moved, good, bad, None, M, most=None)
            self.assertRaises(BadPath, moved, good, ("none",), None, bad, most=None)
            self.assertRaises(BadPath, moved, good, M, "x", bad)
        self.assertRaises(BadPath, moved, good, M, None, M, most=None)
        self.assertRaises(BadPath, moved, good, ("none",), None, ("none",), most=None)
        for bad in (("none",), ("c",), ("c", "d"), ("m", "x")):
            self.assertRaises(NoModule, moved, good, bad, None, O, most=None)
            self.assertRaises(NoModule, moved, good, bad, "x", ("none", "z"))
            self.assertRaises(NoModule, moved, good, M, None, bad, most=None)
        for bad in (None, True, 1, "", "X", "x1", "abcdefghi", b"x", (), ("x",), ["x"], {}, object()):
            self.assertRaises(BadName, moved, good, M, bad, O, most=None)
            self.assertRaises(BadName, moved, good, M, bad, O)
        for bad in BAD_MOST:
            self.assertRaises(BadNumber, moved, good, M, "x", O, most=bad)
            self.assertRaises(BadNumber, moved, good, M, "y", O, most=bad)

    def test_parameters_by_name(self):
        good = shelf({"m": plain(let("x")), "o": plain()})
        expected = moved(good, M, "x", O)
        self.assertEqual(moved(most=500, other=O, name="x", path=M, shelf=good), expected)
        self.assertEqual(moved(good, M, other=O, name="x"), expected)
        self.assertRaises(TypeError, moved, good, M, "x", O, 500)
        self.assertEqual(moved(good, M, "x", O, most=2000), expected)

    def test_names_that_are_not_bound(self):
        self.assertEqual(move({"m": plain(), "o": plain()}, "abcdefgh"), Cant("bound", M))

    def test_the_shelf_does_not_change_and_the_result_is_new(self):
        places = {"home": {M: plain(let("x")), O: plain()}}
        given = shelf({"m": plain(let("x")), "o": plain()})
        first = moved(given, M, "x", O)
        first.shelf.places()["home"].clear()
        first.shelf.paths().clear()
        second = moved(given, M, "x", O)
        self.assertEqual(first, second)
        self.assertEqual(given.places(), places)
        self.assertNotEqual(first.shelf, given)
        first.shelf = None
        self.assertEqual(moved(given, M, "x", O), second)


def rename(row, new):
    """A row of BINDING that binds another name instead of x."""
    word = row[0]
    if word in ("let", "drop", "def", "box"):
        return (word, new) + row[2:]
    if word == "use" and row[2] is None:
        return (word, (new,) + row[1][1:], None)
    if word == "from":
        return row[:3] + (((row[3][0][0], new),),)
    return row[:-1] + (new,)


def leads(row):
    """Whether a row directly among the own rows can be led along."""
    return row[0] == "from" or (row[0] == "use" and row[2] is not None)


if __name__ == "__main__":
    unittest.main()

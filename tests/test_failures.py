"""Points 7 and 8: each word of a failure with its path, what a try catches, `deep`, `spent`, show and hide."""

import unittest

from modulehall.errors import Fell
from modulehall.shelves import Shelf
from modulehall.worlds import MOST, World
from tests.kit import (
    ONE, call, dot, fell, fell_load, heard, let, loaded, name, num, package, plain, plus, put, said_of, say, take,
    take_all, tell,
    use, world,
)

BOX = ("box", "b", ())
DEF = ("def", "d", (), ())

# For each word rows that fail with it, as the last of the rows of a module or a def.
FAILING = {
    "name": (
        (say("missing"),), (("drop", "missing"),), (("let", "x", plus(ONE, name("missing"))),),
        (let("x"), ("drop", "x"), say("x")), (("when", name("missing"), (), ()),), (("set", name("missing"), "x", ONE),),
        (("say", call("missing")),), (("say", dot("missing", "x")),), (("box", "b", (say("missing"),)),),
    ),
    "dot": (
        (("say", dot(ONE, "x")),), (DEF, ("say", dot("d", "x"))), (BOX, ("say", dot("b", "x"))),
        (use("whole", "w"), ("say", dot("w", "missing"))), (take("whole", "missing"),), (("set", ONE, "x", ONE),),
        (DEF, ("set", name("d"), "x", ONE)), (take("pack", "missing"),), (take("whole", "n", "missing"),),
        (take_all("shows"),),
    ),
    "half": (
        (use("own", "o"), ("say", dot("o", "missing"))), (take("own", "missing"),), (take("ring", "back"),),
        (("again", ("own",)),),
    ),
    "hidden": (
        (take("hides", "x"),), (use("hides", "o"), ("say", dot("o", "x"))), (use("hides", "o"), ("set", name("o"), "x", ONE)),
        (take("hides", "none"),), (use("hides", "o"), ("say", dot("o", "none"))),
        (use("hides", "o"), ("set", name("o"), "none", ONE)),
    ),
    "module": (
        (use("none", "x"),), (use("none"),), (use("none.x"),), (use("whole.x"),), (use("pack.none"),),
        (take("none", "x"),), (take_all("none"),), (("lazy", ("none",), "x"), say("x")), (("again", ("none",)),),
        (("again", ("unused",)),), (("from", 2, (), (("x", "x"),)),), (("from", 1, (), (("x", "x"),)),),
        (("far", "one", ("whole",), "n", "x"),), (("far", "none", ("whole",), "n", "x"),),
        (("far", "two", ("none",), "n", "x"),),
    ),
    "call": (
        (("say", call(ONE)),), (BOX, ("say", call("b"))), (use("whole", "w"), ("say", call("w"))),
        (DEF, ("say", call("d", ONE))),
        (("def", "d", ("x",), ()), ("say", call("d"))), (("def", "d", ("x",), ()), ("say", call("d", ONE, ONE))),
    ),
    "number": (
        (DEF, ("say", plus(name("d"), ONE))), (BOX, ("say", plus(ONE, name("b")))), (DEF, ("say", ("less", name("d"), ONE))),
        (use("whole", "w"), ("say", ("less", ONE, name("w")))), (DEF, ("when", name("d"), (), ())),
        (BOX, ("when", name("b"), (), ())),
    ),
    "mixed": (
        (("far", "two", ("whole",), "d", "x"),), (("far", "two", ("whole",), "b", "x"),),
        (("far", "two", ("whole",), "m", "x"),),
        (("far", "two", ("whole",), "l", "x"),),
    ),
    "deep": (
        (("def", "d", (), (("give", call("d")),)), ("say", call("d"))),
    ),
}
OTHERS = {
    ("whole",): plain(let("n", 4), DEF, BOX, use("other", "m"), ("lazy", ("other",), "l")), ("other",): plain(),
    ("pack",): package(), ("shows",): plain(("show", ("missing",))), ("ring",): plain(use("own", "back")),
    ("unused",): plain(),
    ("hides",): plain(("hide", ("x", "none")), let("x")),
}


def own_world(rows, most=MOST):
    """A world in which a module `own` has these rows, and a second edition with the same other modules."""
    first = Shelf({"home": {("own",): plain(*rows), **OTHERS}})
    return World({"one": first, "two": Shelf({"home": OTHERS})}, most=most)


class Words(unittest.TestCase):
    def fell_own(self, rows):
        return fell(self, own_world(rows).load, ("own",))

    def test_in_the_rows_of_a_module(self):
        for word, cases in FAILING.items():
            for rows in cases:
                if rows[0] == take("ring", "back"):
                    continue
                with self.subTest(word=word, rows=rows):
                    self.assertEqual(self.fell_own(rows), (word, "own"))
                    self.assertEqual(self.fell_own((("when", ONE, rows, ()),)), (word, "own"))
                    self.assertEqual(self.fell_own((("try", (say("missing"),), rows),)), (word, "own"))
                    # A from-all may not stand in a box, and a def does not see the box in which it stands.
                    if "*" not in rows[0] and word != "deep":
                        self.assertEqual(self.fell_own((("box", "b", rows),)), (word, "own"))

    def test_a_try_catches_it(self):
        for word, cases in FAILING.items():
            for rows in cases:
                with self.subTest(word=word, rows=rows):
                    hall = own_world((("try", rows, (tell(99),)), tell(100)))
                    hall.load(("own",))
                    self.assertEqual(heard(hall)[-1], 100)
                    self.assertEqual(99 in heard(hall), rows[0] != take("ring", "back"))

    def test_in_the_rows_of_a_def_of_another_module(self):
        for word, cases in FAILING.items():
            for rows in cases:
                if "*" in rows[0] or word == "half":
                    continue
                with self.subTest(word=word, rows=rows):
                    hall = own_world((("def", "f", (), rows),))
                    put(hall, "caller", plain(take("own", "f"), tell(1), ("say", call("f"))))
                    self.assertEqual(fell(self, hall.load, ("caller",)), (word, "own"))
                    self.assertEqual(hall.table()[:1], [("own",)])
                    self.assertNotIn(("caller",), hall.table())

    def test_the_path_of_a_call_is_that_of_the_row_that_calls(self):
        hall = own_world((take("give", "f"), ("say", call("f", ONE))))
        put(hall, "give", plain(("def", "f", (), ())))
        self.assertEqual(fell(self, hall.load, ("own",)), ("call", "own"))

    def test_the_path_of_the_module_that_fails_while_others_wait_for_it(self):
        modules = {"a": plain(use("b", "b")), "b": package(use("b.c", "c")), "b.c": plain(say("missing"))}
        self.assertEqual(fell_load(self, modules, "a"), ("name", "b.c"))

    def test_the_path_is_empty_if_no_row_of_a_module_is_being_run(self):
        hall = world({"a": plain(), "p": package(), "f": package(say("missing"))})
        self.assertEqual(fell(self, hall.load, ("none",)), ("module", ""))
        self.assertEqual(fell(self, hall.load, ("none", "x")), ("module", ""))
        self.assertEqual(fell(self, hall.load, ("a", "x")), ("module", ""))
        self.assertEqual(fell(self, hall.load, ("p", "x")), ("module", ""))
        self.assertEqual(fell(self, hall.load, ("f", "x")), ("name", "f"))
        self.assertEqual(fell(self, hall.again, ("f",)), ("module", ""))
        self.assertEqual(hall.table(), [("a",), ("p",)])

    def test_half_of_others(self):
        modules = {"a": package(use("b", "b"), let("x")), "b": plain(take("a", "x")), "c": plain(use("a", "a")), "a.y": plain()}
        self.assertEqual(fell_load(self, modules, "a"), ("half", "b"))
        modules["b"] = plain(use("a", "a"), ("say", dot("a", "x")))
        self.assertEqual(fell_load(self, modules, "c"), ("half", "b"))
        modules["b"] = plain(take("a", "y"), say("y"))
        self.assertEqual(heard(loaded(modules, "a")), [("module", ("a", "y"))])

    def test_a_module_that_was_taken_out_of_the_table_is_not_whole(self):
        modules = {"a": plain(let("x", 5), use("b", "b"), say("missing")), "b": plain(use("a", "a")), "c": plain(use("b", "b"))}
        hall = world(modules)
        self.assertEqual(fell(self, hall.load, ("a",)), ("name", "a"))
        put(hall, "c", plain(use("b", "b"), ("say", dot("b", "a", "x")), ("say", dot("b", "a", "y"))))
        self.assertEqual(fell(self, hall.load, ("c",)), ("half", "c"))
        self.assertEqual(heard(hall), [5])


class Deep(unittest.TestCase):
    count = ("def", "f", ("n",), (("when", name("n"), (("give", plus(ONE, call("f", plus(name("n"), num(-1))))),), ()),))

    def test_the_thirtieth_goes_well_and_the_thirty_first_fails(self):
        # The run of the module is the first one, and the call with 0 the last one.
        self.assertEqual(said_of(self.count, ("say", call("f", num(28)))), [28])
        self.assertEqual(fell_load(self, {"m": plain(self.count, ("say", call("f", num(29))))}, "m"), ("deep", "m"))

    def test_runs(self):
        names = ["m" + chr(97 + at // 26) + chr(97 + at % 26) for at in range(32)]
        modules = {x: plain(use(y, "x")) for x, y in zip(names, names[1:])}
        modules[names[29]] = plain()
        self.assertEqual(loaded(modules, names[0]).table(), [(x,) for x in names[:30]])
        modules[names[29]] = plain(use(names[30], "x"))
        modules[names[30]] = plain()
        hall = world(modules)
        self.assertEqual(fell(self, hall.load, (names[0],)), ("deep", names[29]))
        self.assertEqual(hall.table(), [])
        hall.load((names[1],))
        self.assertEqual(len(hall.table()), 30)

    def test_lazy_names_and_froms_run_modules_too(self):
        names = ["m" + chr(97 + at // 26) + chr(97 + at % 26) for at in range(31)]
        modules = {x: package(("lazy", (y,), "x"), say("x")) for x, y in zip(names[::2], names[1::2])}
        modules.update({x: package(take_all(y)) for x, y in zip(names[1::2], names[2::2])})
        modules[names[30]] = plain()
        self.assertEqual(fell_load(self, modules, names[0]), ("deep", names[29]))
        modules[names[29]] = plain()
        self.assertEqual(len(loaded(modules, names[0]).table()), 30)

    def test_parents_do_not_lie_around_their_children(self):
        rows = (self.count, ("def", "g", ("n",), (("when", ("less", ONE, name("n")), (("give", call("g", plus(name("n"), num(-1)))),), (
            use("a.b.c.d", "x"),)),)))
        modules = {"a": package(), "a.b": package(), "a.b.c": package(), "a.b.c.d": plain()}
        self.assertEqual(said_of(*rows, ("say", call("g", num(28))), **modules), [0])
        self.assertEqual(fell_load(self, {"m": plain(*rows, ("say", call("g", num(29)))), **modules}, "m"), ("deep", "m"))

    def test_calls_runs_and_agains_mixed(self):
        # A module r calls its def, which loads w again, whose rows use the next r: ten times three in all.
        for many in (10, 11):
            letters = "abcdefghijk"[:many]
            hall = loaded({"w" + x: plain() for x in letters}, *["w" + x for x in letters])
            for x, y in zip(letters, letters[1:] + "z"):
                put(hall, "r" + x, plain(("def", "f", (), (("again", ("w" + x,)),)), ("say", call("f"))))
                put(hall, "w" + x, plain(use("r" + y, "x")) if y != "z" else plain())
            if many == 10:
                hall.load(("ra",))
                self.assertEqual(heard(hall), [0] * 10)
            else:
                self.assertEqual(fell(self, hall.load, ("ra",)), ("deep", "wj"))

    def test_the_run_of_again_counts(self):
        f = ("def", "f", ("n",), (("when", name("n"), (("give", call("f", plus(name("n"), num(-1)))),), (("again", ("o",)),)),))
        rows = (use("o", "o"), f)
        self.assertEqual(said_of(*rows, ("say", call("f", num(27))), o=plain(tell(1))), [1, 1, 0])
        modules = {"m": plain(*rows, ("say", call("f", num(28)))), "o": plain(tell(1))}
        self.assertEqual(fell_load(self, modules, "m"), ("deep", "m"))

    def test_runs_inside_the_run_of_again_count(self):
        hall = loaded({"o": plain(self.count)}, "o")
        put(hall, "o", plain(("say", call("f", num(28)))))
        hall.again(("o",))
        self.assertEqual(heard(hall), [28])
        put(hall, "o", plain(("say", call("f", num(29)))))
        self.assertEqual(fell(self, hall.again, ("o",)), ("deep", "o"))

    def test_an_again_that_is_too_deep_changes_nothing(self):
        f = ("def", "f", ("n",), (("when", name("n"), (("give", call("f", plus(name("n"), num(-1)))),), (("again", ("o",)),)),))
        hall = loaded({"o": plain(let("x"), ("hide", ("x",)))}, "o")
        put(hall, "o", plain())
        put(hall, "m", plain(f, ("try", (("say", call("f", num(28))),), ()), take("o", "x")))
        self.assertEqual(fell(self, hall.load, ("m",)), ("hidden", "m"))

    def test_boxes_do_not_count(self):
        boxed = ("box", "b", (("box", "c", (("let", "r", call("f", num(28))),)),))
        self.assertEqual(said_of(self.count, boxed, ("say", dot("b", "c", "r"))), [28])

    def test_call_is_checked_before_deep(self):
        for last, word in (((), "deep"), ((ONE,), "call")):
            f = ("def", "f", ("n",), (("when", name("n"), (("give", call("f", plus(name("n"), num(-1)))),), (("give", call("g", *last)),)),))
            modules = {"m": plain(f, ("def", "g", (), ()), ("say", call("f", num(28))))}
            self.assertEqual(fell_load(self, modules, "m"), (word, "m"))

    def test_a_module_that_is_not_found_is_no_matter_of_depth(self):
        for dotted, word in (("none", "module"), ("o", "deep"), ("m", None)):
            f = ("def", "f", ("n",), (("when", name("n"), (("give", call("f", plus(name("n"), num(-1)))),), (use(dotted, "x"),)),))
            modules = {"m": plain(f, ("say", call("f", num(28)))), "o": plain()}
            if word is None:
                self.assertEqual(heard(loaded(modules, "m")), [0])
            else:
                self.assertEqual(fell_load(self, modules, "m"), (word, "m"))

    def test_after_a_failure_the_depth_is_that_of_the_try(self):
        rows = (self.count, ("try", (("say", call("f", num(29))),), (("say", call("f", num(28))),)), ("say", call("f", num(28))))
        self.assertEqual(said_of(*rows), [28, 28])

    def test_the_path_is_that_of_the_row_that_calls_or_loads(self):
        other = plain(("def", "g", (), (("give", call("f")),)), take("m", "f"))
        f = ("def", "f", (), (("give", call("g")),))
        for first, last in (("f", "m"), ("g", "o")):
            modules = {"m": plain(f, take("o", "g"), ("say", call(first))), "o": other}
            self.assertEqual(fell_load(self, modules, "m"), ("deep", last))

    def test_rows_of_the_greatest_depth_at_each_call(self):
        # Thirty calls, each of them in an expression and in rows as deep as they may be.
        deepest = ("let", "r", plus(plus(call("f", num(0)), num(0)), num(0)))
        rows = (("when", ONE, (("try", (deepest,), (("give", num(1)),)),), ()),)
        self.assertEqual(said_of(("def", "f", ("n",), rows), ("say", call("f", ONE))), [0])


class Spent(unittest.TestCase):
    def least(self, *rows, **others):
        """The number of rows with which a module can just be loaded; with one less, it is spent."""
        modules = {"m": plain(*rows), **others}
        for most in range(60):
            try:
                loaded(modules, "m", most=most)
                return most
            except Fell as failure:
                self.assertEqual(failure.word, "spent")
        return None

    def test_no_rows_at_all(self):
        self.assertEqual(self.least(), 0)
        self.assertEqual(fell_load(self, {"m": plain(tell(1))}, "m", most=0), ("spent", "m"))

    def test_each_row_counts_when_it_is_reached(self):
        f = ("def", "f", (), (("top", ("x",)), let("x"), ("give", ONE), tell(1), tell(2)))
        g = ("def", "g", (), (let("y"), ("def", "h", (), (("outer", ("y",)), let("y", 2))), ("say", call("h"))))
        for rows, many in (
            ((let("x"), say("x"), ("drop", "x")), 3),
            ((("show", ("x",)), ("hide", ("y",))), 2),
            ((("when", ONE, (tell(1), tell(2)), (tell(3),)),), 3),
            ((("when", num(0), (tell(1), tell(2)), (tell(3),)),), 2),
            ((("try", (tell(1), say("none"), tell(2)), (tell(3), tell(4), tell(5))),), 6),
            ((("try", (tell(1),), (tell(3), tell(4))),), 2),
            ((("box", "b", (tell(1), ("box", "c", (tell(2),)))),), 4),
            ((f,), 1),
            ((f, ("say", call("f"))), 5),
            ((f, ("say", plus(call("f"), call("f")))), 8),
            ((g, ("say", call("g"))), 7),
            ((use("o", "o"), use("o", "p"), ("again", ("o",)), ("lazy", ("o",), "l"), take("o", "n"), take_all("o")), 10),
            ((use("p.c"), ("set", name("p"), "x", ONE)), 4),
            ((("try", (("far", "two", ("o",), "x", "y"),), ()),), 2),
        ):
            with self.subTest(rows=rows):
                others = {"o": plain(let("n"), let("k")), "p": package(let("n")), "p.c": plain(let("n"))}
                self.assertEqual(self.least(*rows, **others), many)

    def test_at_the_row_at_which_it_happens(self):
        modules = {"m": plain(tell(1), use("o", "o"), tell(2)), "o": plain(tell(3), ("def", "f", (), (tell(4),)))}
        for most, path, result in ((0, "m", []), (1, "m", [1]), (2, "o", [1]), (3, "o", [1, 3]), (4, "m", [1, 3])):
            hall = world(modules, most)
            self.assertEqual(fell(self, hall.load, ("m",)), ("spent", path))
            self.assertEqual((heard(hall), hall.table()), (result, [("o",)] if most == 4 else []))
        loaded(modules, "m", most=5)

    def test_in_a_def_of_another_module(self):
        modules = {"m": plain(take("o", "f"), ("say", call("f"))), "o": plain(("def", "f", (), (tell(4),)))}
        self.assertEqual(fell_load(self, modules, "m", most=3), ("spent", "o"))
        self.assertEqual(fell_load(self, modules, "m", most=2), ("spent", "m"))

    def test_a_try_does_not_catch_it(self):
        rows = (("try", (tell(1), tell(2)), (tell(3),)),)
        hall = world({"m": plain(*rows)}, most=2)
        self.assertEqual(fell(self, hall.load, ("m",)), ("spent", "m"))
        self.assertEqual(heard(hall), [1])
        hall = world({"m": plain(("try", (say("none"),), (tell(3),)))}, most=2)
        self.assertEqual(fell(self, hall.load, ("m",)), ("spent", "m"))
        self.assertEqual(heard(hall), [])
        inner = {"m": plain(("try", (("try", (use("o", "o"),), (tell(1),)),), (tell(2),))), "o": plain(tell(5), tell(6))}
        hall = world(inner, most=4)
        self.assertEqual(fell(self, hall.load, ("m",)), ("spent", "o"))
        self.assertEqual((heard(hall), hall.table()), ([5], []))

    def test_each_command_may_run_as_many(self):
        hall = world({"m": plain(tell(1), tell(2)), "o": plain(tell(3), tell(4), tell(5))}, most=2)
        hall.load(("m",))
        hall.again(("m",))
        self.assertEqual(fell(self, hall.load, ("o",)), ("spent", "o"))
        hall.again(("m",))
        self.assertEqual(heard(hall), [1, 2, 1, 2, 3, 4, 1, 2])

    def test_rows_without_end(self):
        rows = (("def", "f", (), (("try", (("say", call("f")),), ()), ("try", (("say", call("f")),), ()))), ("say", call("f")))
        self.assertEqual(fell_load(self, {"m": plain(*rows)}, "m", most=2000), ("spent", "m"))

    def test_parents_and_failed_loads_count(self):
        bad = package(tell(1), say("none"))
        self.assertEqual(self.least(("try", (use("bad.x"),), ()), ("try", (use("bad.x"),), ()), bad=bad), 8)

    def test_a_module_that_is_run_again_is_whole_behind_it(self):
        hall = world({"m": plain(tell(1)), "o": plain(tell(5))}, most=1)
        hall.load(("m",))
        put(hall, "m", plain(tell(1), tell(2)))
        self.assertEqual(fell(self, hall.again, ("m",)), ("spent", "m"))
        put(hall, "m", plain(tell(3)))
        hall.again(("m",))
        self.assertEqual(heard(hall), [1, 1, 3])


class Hidden(unittest.TestCase):
    hides = plain(
        let("x", 5), ("def", "get", (), (("give", name("x")),)), ("def", "self", (), (use("h", "h"), ("give", dot("h", "x")))),
        ("def", "take", (), (("from", 0, ("h",), (("x", "y"),)), ("give", name("y")))),
        ("def", "put", ("n",), (use("h", "h"), ("set", name("h"), "x", name("n")))), ("hide", ("x", "none")), let("z", 6),
    )

    def hall(self, *rows):
        hall = world({"m": plain(*rows), "h": self.hides})
        return hall

    def test_other_modules_are_refused(self):
        for x in ("x", "none"):
            for rows in (
                (take("h", x),), (("from", 1, ("h",), ((x, "y"),)),), (use("h", "h"), ("say", dot("h", x))),
                (use("h", "h"), ("set", name("h"), x, ONE)),
                (use("h", "h"), ("def", "f", (), (("give", dot("h", x)),)), ("say", call("f"))),
                (use("h", "h"), ("box", "b", (("say", dot("h", x)),))),
            ):
                with self.subTest(rows=rows):
                    self.assertEqual(fell(self, self.hall(*rows).load, ("m",)), ("hidden", "m"))

    def test_the_own_rows_of_the_module_are_not(self):
        hall = self.hall(use("h", "h"), ("say", call(dot("h", "get"))), ("say", call(dot("h", "self"))), (
            "say", call(dot("h", "put"), num(8))), ("say", call(dot("h", "take"))))
        hall.load(("m",))
        self.assertEqual(heard(hall), [5, 5, 0, 8])

    def test_the_own_rows_fail_as_usual_if_the_name_does_not_exist(self):
        module = plain(("hide", ("x",)), ("def", "f", (), (use("h", "h"), ("give", dot("h", "x")))), ("def", "g", (), (take("h", "x"),)))
        for x in "fg":
            self.assertEqual(fell_load(self, {"m": plain(take("h", x), ("say", call(x))), "h": module}, "m"), ("dot", "h"))
        own = plain(("hide", ("x",)), use("h", "h"), ("say", dot("h", "x")))
        self.assertEqual(fell_load(self, {"h": own}, "h"), ("half", "h"))

    def test_from_all_omits_them(self):
        hall = self.hall(take_all("h"))
        hall.load(("m",))
        self.assertEqual(hall.names(("m",)), ["get", "self", "take", "put", "z"])

    def test_it_holds_from_the_first_row_on(self):
        modules = {"h": plain(let("x"), use("o", "o"), ("hide", ("x",))), "o": plain(take("h", "x"))}
        self.assertEqual(fell_load(self, modules, "h"), ("hidden", "o"))
        modules["o"] = plain(take_all("h"))
        self.assertEqual(loaded(modules, "h").names(("o",)), [])
        modules = {"h": plain(let("x"), let("y"), use("o", "o"), ("show", ("y",))), "o": plain(take_all("h"))}
        self.assertEqual(loaded(modules, "h").names(("o",)), ["y"])

    def test_a_module_below_of_a_hidden_name(self):
        modules = {"h": package(("hide", ("x",))), "h.x": plain(let("n", 2)), "m": plain(take("h", "x")), "o": plain(use("h.x", "x"))}
        self.assertEqual(fell_load(self, modules, "m"), ("hidden", "m"))
        self.assertEqual(loaded(modules, "o").names(("o",)), ["x"])
        modules["m"] = plain(use("h.x"), ("say", dot("h", "x")))
        self.assertEqual(fell_load(self, modules, "m"), ("hidden", "m"))
        modules["h.x"] = plain(take("", "x", dots=1))
        self.assertEqual(fell_load(self, modules, "o"), ("hidden", "h.x"))

    def test_a_module_itself_takes_its_hidden_child(self):
        modules = {"h": package(("hide", ("x",)), take("", "x", dots=1), ("say", dot("x", "n"))), "h.x": plain(let("n", 2))}
        self.assertEqual(heard(loaded(modules, "h")), [2])

    def test_show_and_hide_are_those_of_the_rows_that_are_run_again(self):
        hall = loaded({"h": plain(let("x", 1), let("y", 2), ("hide", ("x",)), ("show", ("y",)))}, "h")
        put(hall, "h", plain(("hide", ("y",))))
        put(hall, "m", plain(take_all("h"), ("try", (take("h", "y"),), (tell(9),))))
        hall.again(("h",))
        hall.load(("m",))
        self.assertEqual((hall.names(("m",)), heard(hall)), (["x"], [9]))
        put(hall, "h", plain())
        hall.again(("h",))
        put(hall, "o", plain(take_all("h")))
        hall.load(("o",))
        self.assertEqual(hall.names(("o",)), ["x", "y"])

    def test_it_holds_from_the_first_row_of_the_new_rows_on(self):
        hall = loaded({"h": plain(let("x"), ("hide", ("x",))), "o": plain(use("h", "h")), "m": plain(take("h", "x"))}, "o")
        put(hall, "h", plain(use("m", "m"), ("hide", ("y",))))
        hall.again(("h",))
        self.assertEqual(hall.names(("m",)), ["x"])

    def test_put_alone_changes_nothing(self):
        hall = loaded({"h": plain(let("x"), ("hide", ("x",))), "m": plain(take("h", "x"))}, "h")
        put(hall, "h", plain(let("x")))
        self.assertEqual(fell(self, hall.load, ("m",)), ("hidden", "m"))

    def test_the_module_is_told_by_its_path_and_not_by_its_object(self):
        # The def comes from a run of h that failed; its rows are rows of h all the same.
        hall = world({
            "h": plain(let("x", 3), ("hide", ("x",)), ("def", "f", (), (use("h", "h"), ("give", dot("h", "x")))),
                       use("o", "o"), ("set", name("o"), "f", name("f")), say("missing")),
            "o": plain(),
        })
        self.assertEqual(fell(self, hall.load, ("h",)), ("name", "h"))
        put(hall, "h", plain(let("x", 4), ("hide", ("x",))))
        put(hall, "m", plain(use("o", "o"), ("say", call(dot("o", "f")))))
        hall.load(("m",))
        self.assertEqual(heard(hall), [4])

    def test_a_name_of_a_box_is_not_hidden(self):
        module = plain(("box", "b", (let("x", 2),)), ("hide", ("x",)))
        self.assertEqual(said_of(take("h", "b"), ("say", dot("b", "x")), h=module), [2])


if __name__ == "__main__":
    unittest.main()

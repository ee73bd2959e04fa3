"""Point 17: the new rows of all modules when a name is moved."""

import random
import unittest

from modulehall.entries import entries
from modulehall.meanings import meaning
from modulehall.moving import Cant, Moved, moved
from modulehall.shelves import Shelf
from tests.kit import ONE, let, name, num, package, path, plain, say, shelf, take_all, tell, use, wide

M, O = ("m",), ("o",)
DEF = ("def", "x", (), (say("k"),))
FROM = ("from", 0, O, (("x", "x"),))
# In a module that falls anyway, rows can stand that would fail.
FAIL = say("missing")


def of(row, *pairs, dots=0):
    """A from of a dotted path that takes pairs, written as `x` or `x y`."""
    split = [each.split() for each in pairs]
    return ("from", dots, path(row) if row else (), tuple((each[0], each[-1]) for each in split))


class NewRows(unittest.TestCase):
    def check(self, modules, changes, x="x", old="m", new="o", **places):
        """Fail unless x is moved and the shelf has these changes and no others."""
        result = moved(shelf(modules, **places), path(old), x, path(new))
        self.assertIsInstance(result, Moved, getattr(result, "word", None))
        expected = shelf({**modules, **changes}, **places)
        self.assertEqual(result.shelf.places(), expected.places())
        self.assertEqual(result.shelf, expected)

    def check_user(self, rows, expected, **others):
        """Fail unless a module n has these new rows, if x of m is moved to o."""
        modules = {"m": plain(let("x"), let("a"), let("b"), let("c")), "o": plain(), **others}
        changes = {"m": plain(FROM, let("a"), let("b"), let("c")), "o": plain(let("x"))}
        self.check({**modules, "n": plain(*rows)}, {**changes, "n": plain(*expected)})

    def test_the_row_and_the_from_in_its_place(self):
        for row in (let("x"), ("def", "x", ("a",), (say("a"),)), ("box", "x", (let("y"),))):
            self.check({"m": plain(row), "o": plain()}, {"m": plain(FROM), "o": plain(row)})
            self.check(
                {"m": plain(let("a"), row, let("b")), "o": plain(let("c"), let("d"))},
                {"m": plain(let("a"), FROM, let("b")), "o": plain(let("c"), let("d"), row)},
            )

    def test_longer_paths_and_other_sorts(self):
        self.check(
            {"p": package(), "p.m": package(let("y", 3)), "q": wide(), "q.r": package(), "q.r.o": wide(let("z"))},
            {"p.m": package(("from", 0, ("q", "r", "o"), (("y", "y"),))), "q.r.o": wide(let("z"), let("y", 3))},
            "y", "p.m", "q.r.o",
        )

    def test_the_other_module_above_or_below(self):
        self.check({"p": package(let("x")), "p.o": plain()}, {"p": package(of("p.o", "x")), "p.o": plain(let("x"))}, old="p", new="p.o")
        self.check({"p": package(), "p.m": plain(let("x"))}, {"p": package(let("x")), "p.m": plain(of("p", "x"))}, old="p.m", new="p")

    def test_a_use_that_is_led_along(self):
        self.check(
            {"m": plain(use("q", "k"), DEF), "o": plain(), "q": plain()},
            {"m": plain(use("q", "k"), FROM), "o": plain(use("q", "k"), DEF)},
        )

    def test_a_from_that_is_led_along_alone_and_without_dots(self):
        modules = {"p": package(), "p.m": plain(of("q", "a", "b k", "c", dots=1), DEF), "o": plain(), "p.q": plain(*[let(x) for x in "abc"])}
        changes = {"p.m": plain(of("q", "a", "b k", "c", dots=1), FROM), "o": plain(of("p.q", "b k"), DEF)}
        self.check(modules, changes, old="p.m")

    def test_several_in_the_order_of_their_names(self):
        row = ("def", "x", (), (say("zz"), say("b"), say("a"), say("z"), say("missing")))
        rows = use("q", "z"), of("q", "v b", "w a"), use("q", "zz")
        self.check(
            {"m": plain(*rows, row), "o": plain(let("c")), "q": plain(let("v"), let("w"))},
            {"m": plain(*rows, FROM), "o": plain(let("c"), of("q", "w a"), of("q", "v b"), use("q", "z"), use("q", "zz"), row)},
        )

    def test_a_name_that_is_read_twice_is_led_once(self):
        row = ("def", "x", (), (say("k"), say("k"), ("box", "b", (say("k"),))))
        self.check({"m": plain(use("q", "k"), row), "o": plain(), "q": plain()}, {"m": plain(use("q", "k"), FROM), "o": plain(use("q", "k"), row)})

    def test_names_that_are_there_already(self):
        row = ("def", "x", (), (say("k"), say("l")))
        mine = use("q", "k"), of("q", "v l")
        for theirs in (use("q", "k"), ("lazy", ("q",), "k"), ("try", (), (use("q", "k"),))):
            self.check(
                {"m": plain(*mine, row), "o": plain(theirs), "q": plain(let("v"))},
                {"m": plain(*mine, FROM), "o": plain(theirs, of("q", "v l"), row)},
            )
        theirs = of("q", "v", "v l", dots=1)
        self.check(
            {"m": plain(*mine, row), "o": plain(theirs), "q": plain(let("v"))},
            {"m": plain(*mine, FROM), "o": plain(theirs, use("q", "k"), row)},
        )

    def test_a_name_that_is_there_by_a_from_all(self):
        modules = {"m": plain(use("q", "k"), DEF), "o": plain(take_all("r")), "q": plain(), "r": plain(use("q", "k"))}
        self.check(modules, {"m": plain(use("q", "k"), FROM), "o": plain(take_all("r"), DEF)})

    def test_a_module_below_does_not_replace_the_row(self):
        modules = {"p": package(), "p.m": plain(of("", "k", dots=1), DEF), "p.k": plain()}
        self.check(modules, {"p.m": plain(of("", "k", dots=1), of("p", "x")), "p": package(of("p", "k"), DEF)}, old="p.m", new="p")

    def test_a_use_of_the_other_module_itself(self):
        self.check({"m": plain(use("o", "k"), DEF), "o": plain()}, {"m": plain(use("o", "k"), FROM), "o": plain(use("o", "k"), DEF)})

    def test_a_from_that_leads_nowhere_keeps_its_dots(self):
        row = of("q", "k", dots=3)
        self.check({"m": plain(row, DEF), "o": plain(FAIL)}, {"m": plain(row, FROM), "o": plain(FAIL, row, DEF)})

    def test_a_from_that_takes_the_name_alone(self):
        for pair in ("x", "x y"):
            self.check_user([of("m", pair)], [of("o", pair)])

    def test_a_from_is_split(self):
        self.check_user([of("m", "x", "a")], [of("o", "x"), of("m", "a")])
        self.check_user([of("m", "a", "x")], [of("m", "a"), of("o", "x")])
        self.check_user([of("m", "a", "b d", "x y", "c", "a e")], [of("m", "a", "b d"), of("o", "x y"), of("m", "c", "a e")])

    def test_several_pairs_with_the_name(self):
        self.check_user([of("m", "x", "x y")], [of("o", "x"), of("o", "x y")])
        self.check_user(
            [of("m", "x d", "a", "x e", "x f", "b", "c")],
            [of("o", "x d"), of("m", "a"), of("o", "x e"), of("o", "x f"), of("m", "b", "c")],
        )

    def test_pairs_that_only_bind_the_name_and_other_froms_stay(self):
        for row in (of("m", "a x"), of("m", "a", dots=1), take_all("m"), take_all("m", dots=1), of("o", "k"), use("m", "x"), use("m")):
            others = {"o": plain(let("k"))}
            modules = {"m": plain(let("x"), let("a")), **others, "n": plain(row)}
            self.check(modules, {"m": plain(FROM, let("a")), "o": plain(let("k"), let("x"))})

    def test_froms_with_dots(self):
        modules = {
            "p": package(of("m", "x", "a", dots=1)), "p.m": plain(let("x"), let("a")), "o": plain(),
            "p.n": plain(of("m", "a", "x", dots=1)), "p.q": package(of("m", "x", dots=2)), "r": plain(of("p.m", "x", dots=1)),
            "p.q.s": plain(of("m", "a", dots=2)),
        }
        changes = {
            "p": package(of("o", "x"), of("p.m", "a")), "p.m": plain(FROM, let("a")), "o": plain(let("x")),
            "p.n": plain(of("p.m", "a"), of("o", "x")), "p.q": package(of("o", "x")), "r": plain(of("o", "x")),
        }
        self.check(modules, changes, old="p.m")

    def test_a_from_of_a_package_with_dots_alone(self):
        modules = {"p": package(let("x")), "p.n": plain(of("", "x", dots=1)), "o": plain()}
        self.check(modules, {"p": package(FROM), "p.n": plain(of("o", "x")), "o": plain(let("x"))}, old="p")

    def test_wherever_it_stands(self):
        row, parts = of("m", "a", "x", "b"), (of("m", "a"), of("o", "x"), of("m", "b"))
        for around in (
            lambda *rows: ("when", ONE, rows, ()), lambda *rows: ("when", ONE, (), rows), lambda *rows: ("try", rows, ()),
            lambda *rows: ("try", (let("d"),), rows), lambda *rows: ("def", "f", ("d",), rows), lambda *rows: ("box", "d", rows),
            lambda *rows: ("def", "f", (), (("box", "d", (("try", (let("e"),), rows),)),)),
            lambda *rows: ("box", "d", (let("e"), ("def", "f", (), (*rows, say("e"))), let("f"))),
        ):
            with self.subTest(row=around(row)):
                self.check_user([let("h"), around(row), let("g")], [let("h"), around(*parts), let("g")])

    def test_both_parts_of_a_when(self):
        row, parts = of("m", "x", "a"), (of("o", "x"), of("m", "a"))
        self.check_user([("when", num(0), (row,), (row, row)), row], [("when", num(0), parts, parts + parts), *parts])

    def test_in_the_other_module_itself(self):
        row, parts = of("m", "a", "x y"), (of("m", "a"), of("o", "x y"))
        self.check(
            {"m": plain(let("x"), let("a")), "o": plain(("def", "f", (), (row,)))},
            {"m": plain(FROM, let("a")), "o": plain(("def", "f", (), parts), let("x"))},
        )

    def test_in_an_other_module_that_falls_anyway(self):
        row, parts = of("m", "a", "x y"), (of("m", "a"), of("o", "x y"))
        self.check(
            {"m": plain(let("x"), FAIL), "o": plain(FAIL, row)}, {"m": plain(FROM, FAIL), "o": plain(FAIL, *parts, let("x"))},
        )

    def test_in_the_row_that_is_moved(self):
        row = ("def", "x", (), (of("m", "a", "x y"),))
        new = ("def", "x", (), (of("m", "a"), of("o", "x y")))
        self.check({"m": plain(row), "o": plain()}, {"m": plain(FROM), "o": plain(new)})

    def test_in_the_old_module_nothing_else_changes(self):
        rows = ("def", "f", (), (of("m", "x y"), use("m", "z"), say("x"))), say("x"), ("show", ("x",))
        self.check({"m": plain(let("x"), *rows), "o": plain()}, {"m": plain(FROM, *rows), "o": plain(let("x"))})

    def test_modules_that_are_not_found_stay(self):
        row = of("m", "x")
        modules = {"m": plain(let("x")), "o": plain(), "k.n": plain(row), "n": plain(), "n.a": plain(row)}
        last = {"n": plain(row), "m": plain(let("x"), row), "o": plain(row), "w": plain(row)}
        result = moved(shelf(modules, last=last), M, "x", O)
        expected = shelf(
            {**modules, "m": plain(FROM), "o": plain(let("x"))}, last={**last, "w": plain(of("o", "x"))},
        )
        self.assertEqual(result.shelf, expected)

    def test_froms_of_modules_that_are_not_found_stay(self):
        rows = ("try", (of("m.m", "x"), of("p.m", "x"), of("m", "x", dots=2)), ())
        self.check_user([rows], [rows])

    def test_everything_else_stays(self):
        rows = (
            ("lazy", M, "l"), ("far", "two", M, "x", "y"), ("again", M), use("m", "x"), ("set", name("x"), "x", ONE),
            ("hide", ("x",)), ("show", ("y",)),
        )
        self.check({"m": plain(let("x")), "o": plain(), "n": plain(FAIL, *rows)}, {"m": plain(FROM), "o": plain(let("x"))})

    def test_several_places(self):
        modules = {"m": plain(let("x"))}
        result = moved(shelf(modules, last={"o": plain(), "m": plain(let("x"))}, mid={"n": plain(of("m", "x"))}), M, "x", O)
        expected = shelf({"m": plain(FROM)}, last={"o": plain(let("x")), "m": plain(let("x"))}, mid={"n": plain(of("o", "x"))})
        self.assertEqual(result, Moved(expected))
        self.assertEqual(list(result.shelf.places()), ["home", "last", "mid"])

    def test_there_and_back(self):
        modules = {"m": plain(let("a"), let("x")), "o": plain(let("b"))}
        there = moved(shelf(modules), M, "x", O).shelf
        self.assertEqual(moved(there, O, "x", M), Cant("taken", M))
        self.assertEqual(moved(there, M, "x", O), Cant("bound", M))


NAMES = "xyk"
PATHS = (("m",), ("n",), ("o",), ("o", "x"), ("o", "n"))


class Chance(unittest.TestCase):
    """Random shelves: what holds for every move."""

    def some_row(self, chance):
        x, y = chance.choice(NAMES), chance.choice(NAMES)
        where = chance.choice(PATHS)
        reading = chance.choice(((), (say(y),), (of(".".join(where), x + " " + y), say(x)), (("top", (y,)), let(y))))
        return chance.choice((
            ("let", x, num(chance.randrange(9))), ("let", x, num(3)), ("def", x, (), reading), ("def", x, (), reading),
            ("box", x, tuple(each for each in reading if each[0] not in ("top", "say"))), use(".".join(where), x), use(".".join(where)),
            ("lazy", where, x), of(".".join(where), x, y), of(".".join(where), y + " " + x), of("n", x, dots=chance.choice((1, 2))),
            take_all(".".join(where)), ("try", (say(x),), ()), ("try", (of(".".join(where), x),), (tell(1),)),
        ))

    def some_shelf(self, chance):
        places = {"home": {}, "last": {}}
        for each in PATHS:
            rows = [self.some_row(chance) for _ in range(chance.choice((1, 2, 3)))]
            if chance.random() < 0.1:
                rows.append((chance.choice(("show", "hide")), (chance.choice(NAMES),)))
            sort = chance.choice(("plain", "package", "wide"))
            places[chance.choice(("home", "home", "last"))][each] = (sort, tuple(rows))
        return Shelf(places)

    def check_moved(self, given, old, x, new, result):
        self.assertEqual(meaning(result.shelf, old, x), ("own", new, x))
        self.assertEqual(result.shelf.paths(), given.paths())
        before, after = dict(entries(given)), dict(entries(result.shelf))
        for each in before:
            if before[each][0] == "whole":
                self.assertEqual(after[each][0], "whole")

    def test_moves(self):
        chance = random.Random(16)
        words = {}
        for _ in range(1200):
            given = self.some_shelf(chance)
            paths = given.paths()
            old, new = chance.choice(paths), chance.choice(paths)
            if old == new:
                continue
            x = chance.choice(NAMES)
            before = given.places()
            result = moved(given, old, x, new)
            self.assertEqual(given.places(), before)
            word = "moved" if isinstance(result, Moved) else result.word
            words[word] = words.get(word, 0) + 1
            if isinstance(result, Moved):
                self.check_moved(given, old, x, new, result)
        for word in ("moved", "bound", "hidden", "taken", "leans", "falls"):
            self.assertGreater(words.get(word, 0), 0, words)


if __name__ == "__main__":
    unittest.main()

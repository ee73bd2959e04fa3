"""Point 22: rows as text and back, and where BadText says that a text is not rows."""

import random
import unittest

from modulehall.errors import BadRows, BadText
from modulehall.texts import read, written
from tests.kit import ONE, call, dot, let, name, num, plus, say, take, take_all, tell, use
from tests.test_rows import EXAMPLES, wraps

LESS = ("less", ONE, name("y"))

# Rows without rows inside, and how they are written.
FORMS = (
    (let("x"), "let x = 1"),
    (("set", name("m"), "x", num(-3)), "set m . x = -3"),
    (("set", dot("m", "k"), "x", plus(ONE, ONE)), "set ( m . k ) . x = ( 1 + 1 )"),
    (("drop", "x"), "drop x"),
    (say("x"), "say x"),
    (("again", ("a", "b")), "again a.b"),
    (("again", ("a",)), "again a"),
    (use("a.b"), "use a.b"),
    (use("a.b", "c"), "use a.b as c"),
    (use("a", "a"), "use a as a"),
    (use("a.b.c.d"), "use a.b.c.d"),
    (("lazy", ("a", "b"), "c"), "lazy a.b as c"),
    (("lazy", ("a",), "a"), "lazy a as a"),
    (("far", "t", ("a", "b"), "x", "y"), "far t a.b x as y"),
    (("far", "t", ("a",), "x", "x"), "far t a x as x"),
    (("from", 2, ("a", "b"), (("x", "y"), ("z", "z"))), "from ..a.b use x as y, z"),
    (take("a", "x"), "from a use x"),
    (take("a.b", "x", "y", "z"), "from a.b use x, y, z"),
    (("from", 0, ("a",), (("x", "y"),)), "from a use x as y"),
    (("from", 0, ("a",), (("x", "y"),) * 6), "from a use " + ", ".join(["x as y"] * 6)),
    (take_all("", dots=1), "from . use *"),
    (take_all("", dots=3), "from ... use *"),
    (take_all("a.b"), "from a.b use *"),
    (take_all("a", dots=3), "from ...a use *"),
    (take("", "x", dots=2), "from .. use x"),
    (("def", "f", ("a", "b"), ()), "def f a b"),
    (("def", "f", (), ()), "def f"),
    (("def", "f", tuple("abcdef"), ()), "def f a b c d e f"),
    (("box", "c", ()), "box c"),
    (("show", ("a",)), "show a"),
    (("show", tuple("fedcba")), "show f e d c b a"),
    (("hide", ("a", "b")), "hide a b"),
    (("when", ONE, (), ()), "when 1"),
    (("when", LESS, (), ()), "when ( 1 < y )"),
    (("try", (), ()), "try"),
)
# Those that stand in a def alone.
DEF_FORMS = (
    (("give", ONE), "give 1"), (("give", call("f", ONE)), "give ( f ( 1 ) )"), (("top", ("a",)), "top a"),
    (("top", ("a", "b")), "top a b"), (("outer", ("a",)), "outer a"), (("outer", ("b", "a")), "outer b a"),
)
EXPRESSIONS = (
    (num(0), "0"), (num(7), "7"), (num(-1), "-1"), (num(9999), "9999"), (num(-9999), "-9999"), (num(10), "10"), (name("x"), "x"),
    (name("abcdefgh"), "abcdefgh"), (dot("e", "x"), "( e . x )"), (("dot", ONE, "x"), "( 1 . x )"), (call("e", name("f"), name("g")), "( e ( f g ) )"),
    (call("e"), "( e ( ) )"), (call("e", ONE), "( e ( 1 ) )"), (call("e", ONE, ONE, ONE), "( e ( 1 1 1 ) )"), (plus(name("e"), name("f")), "( e + f )"),
    (("less", name("e"), name("f")), "( e < f )"), (plus(plus(ONE, num(2)), ("less", num(3), num(-4))), "( ( 1 + 2 ) + ( 3 < -4 ) )"),
    (call(dot("a", "b", "c"), ONE), "( ( ( a . b ) . c ) ( 1 ) )"), (call(call(call("f"))), "( ( ( f ( ) ) ( ) ) ( ) )"),
    (call("f", call("g", call("h", ONE), name("x"))), "( f ( ( g ( ( h ( 1 ) ) x ) ) ) )"),
)
WORDS = (
    "let set drop say when try again use lazy far from def box give top outer show hide else as num name dot call plus less"
).split()


def lines(*listed):
    return "".join(line + "\n" for line in listed)


class Written(unittest.TestCase):
    def check(self, rows, text):
        self.assertEqual(written(rows), text)
        self.assertEqual(read(text), rows)

    def test_nothing(self):
        self.check((), "")

    def test_each_form(self):
        for row, line in FORMS:
            with self.subTest(line=line):
                self.check((row,), line + "\n")
                self.check((tell(0), row, tell(2)), lines("say 0", line, "say 2"))

    def test_each_form_in_a_def(self):
        for row, line in DEF_FORMS:
            rows = (("def", "g", ("a", "b"), (("def", "f", (), (row, tell(0))),)),)
            self.check(rows, lines("def g a b", "  def f", "    " + line, "    say 0"))

    def test_each_expression(self):
        for expression, text in EXPRESSIONS:
            with self.subTest(text=text):
                self.check((("say", expression),), "say " + text + "\n")
                rows = ("let", "x", expression), ("set", expression, "y", expression)
                self.check(rows, lines("let x = " + text, f"set {text} . y = {text}"))
                self.check((("when", expression, (tell(1),), ()),), lines("when " + text, "  say 1"))

    def test_when_and_try(self):
        one, two = (tell(1), tell(2)), (tell(3),)
        for word, line in ((("when", ONE), "when 1"), (("try",), "try")):
            self.check(((*word, one, two),), lines(line, "  say 1", "  say 2", "else", "  say 3"))
            self.check(((*word, one, ()),), lines(line, "  say 1", "  say 2"))
            self.check(((*word, (), two),), lines(line, "else", "  say 3"))
            self.check(((*word, (), ()),), lines(line))
            rows = (*word, (), ()), (*word, (), two), (*word, one, ()), tell(4)
            self.check(rows, lines(line, line, "else", "  say 3", line, "  say 1", "  say 2", "say 4"))

    def test_def_and_box(self):
        self.check((("def", "f", (), (tell(1),)), ("box", "c", (tell(2),)), tell(3)), lines("def f", "  say 1", "box c", "  say 2", "say 3"))
        self.check((("def", "f", (), ()), ("box", "c", ()), tell(3)), lines("def f", "box c", "say 3"))

    def test_four_deep(self):
        rows = (("when", ONE, (), (("try", (("box", "c", (("def", "f", (), ()), tell(1))),), (("try", (), (tell(2),)),)),)), tell(3))
        self.check(rows, lines(
            "when 1", "else", "  try", "    box c", "      def f", "      say 1", "  else", "    try", "    else", "      say 2", "say 3",
        ))

    def test_else_belongs_to_the_row_of_its_depth(self):
        inner = ("when", num(2), (tell(1),), ())
        self.check((("when", ONE, (inner,), (tell(2),)),), lines("when 1", "  when 2", "    say 1", "else", "  say 2"))
        inner = ("when", num(2), (tell(1),), (tell(2),))
        self.check((("when", ONE, (inner,), ()),), lines("when 1", "  when 2", "    say 1", "  else", "    say 2"))
        self.check((("when", ONE, (), (inner,)),), lines("when 1", "else", "  when 2", "    say 1", "  else", "    say 2"))
        self.check((("try", (("try", (), ()),), (tell(1),)),), lines("try", "  try", "else", "  say 1"))

    def test_names_that_are_words_of_rows(self):
        for word in WORDS:
            with self.subTest(word=word):
                rows = (
                    let(word), say(word), ("drop", word), ("set", name(word), word, name(word)), use(word), use(word, word),
                    use(word + "." + word), ("lazy", (word,), word), ("far", word, (word,), word, word), take(word, word),
                    ("from", 1, (word,), ((word, "x"), ("x", word), (word, word))), ("def", word, (word,), (("give", name(word)),)),
                    ("box", word, ()), ("show", (word, "x")), ("hide", ("y",)), ("again", (word, word)), ("say", dot(word, word)),
                    ("say", call(word, name(word))), ("when", name(word), (), (tell(1),)),
                )
                self.assertEqual(read(written(rows)), rows)
        self.assertEqual(written((("from", 0, ("as",), (("as", "as"), ("as", "use"), ("x", "as"))),)), "from as use as, as as use, x as as\n")

    def test_forty_rows(self):
        rows = (let("x"),) * 40
        self.check(rows, "let x = 1\n" * 40)
        rows = (("def", "f", (), (("try", (let("x"),) * 19, (let("x"),) * 19),)),)
        self.check(rows, lines("def f", "  try", *["    let x = 1"] * 19, "  else", *["    let x = 1"] * 19))

    def test_the_examples_of_all_rows_wherever_they_may_stand(self):
        for word, (row, *_) in EXAMPLES.items():
            for wrap in wraps(word):
                rows = (wrap(row),)
                self.assertEqual(read(written(rows)), rows)
                self.assertIsInstance(written(rows), str)

    def test_bad_rows(self):
        for rows, at in (
            (None, None), ([], None), ("", None), (True, None), ([let("x")], None), ((let("x"),) * 41, None), ((None,), 0),
            ((let("x"), ("say",)), 1), ((("give", ONE),), 0), ((let("x"), ("show", ("a",)), ("show", ("b",))), 2), ((let("X"),), 0),
            ((("def", "f", (), (("outer", ("x",)),)),), 0), ((("say", num(10000)),), 0), ((("box", "b", (take_all("a"),)),), 0), (({},), 0),
        ):
            with self.subTest(rows=rows):
                with self.assertRaises(BadRows) as caught:
                    written(rows)
                self.assertEqual(caught.exception.at, at)

    def test_parameters_by_name(self):
        self.assertEqual(written(rows=(let("x"),)), "let x = 1\n")
        self.assertEqual(read(text="let x = 1\n"), (let("x"),))

    def test_what_is_read_is_made_of_tuples(self):
        row = read("from a use x, y as z\n")[0]
        self.assertEqual([type(each) for each in (row, row[2], row[3], row[3][0])], [tuple] * 4)
        row = read("def f a\n  say ( f ( 1 ) )\n")[0]
        self.assertEqual([type(each) for each in (row, row[2], row[3], row[3][0], row[3][0][1], row[3][0][1][2])], [tuple] * 6)
        self.assertIs(type(read("say 5\n")[0][1][1]), int)


class Unreadable(unittest.TestCase):
    def fault(self, text):
        """Return the field `row` of the BadText that a text causes."""
        with self.assertRaises(BadText) as caught:
            read(text)
        return caught.exception.row

    def check_line(self, line):
        """Fail unless a line is told to be bad wherever it stands."""
        for before, indent in ((), ""), (("let x = 1", "say 2"), ""), (("def f", "  when 1"), "    "), (("try", "else"), "  "):
            with self.subTest(line=line, before=before):
                self.assertEqual(self.fault(lines(*before, indent + line)), len(before))
                self.assertEqual(self.fault(lines(*before, indent + line, "say 1", "nothing")), len(before))
                self.assertEqual(self.fault(lines(*before, indent + line) + "say 1"), len(before))

    def test_values_that_are_no_strings(self):
        for bad in (None, True, 0, 5, b"let x = 1\n", b"", [], ["let x = 1\n"], (), (let("x"),), {}, object(), set()):
            self.assertEqual(self.fault(bad), 0)

    def test_wrong_blanks(self):
        for _, line in FORMS + DEF_FORMS:
            self.check_line(line + " ")
            self.check_line(line + "\t")
            self.check_line(line + "\r")
            for at, sign in enumerate(line):
                if sign == " ":
                    self.check_line(line[:at] + " " + line[at:])
                    self.check_line(line[:at] + "\t" + line[at + 1:])
        for _, text in EXPRESSIONS:
            for at, sign in enumerate(text):
                if sign == " ":
                    self.check_line("say " + text[:at] + "  " + text[at + 1:])
                    if not text[at - 1:at + 2].replace(" ", "").isalnum():
                        self.check_line("say " + text[:at] + text[at + 1:])

    def test_words_that_are_missing_or_too_many(self):
        for row, line in FORMS + DEF_FORMS:
            # Names of a def, a show and the like may be fewer.
            if row[0] not in ("def", "top", "outer", "show", "hide") and " " in line and not line.endswith(", z"):
                self.check_line(line.rpartition(" ")[0])
            self.check_line(line + " =")
            self.check_line(line + " 1")
            self.check_line("= " + line)
            self.check_line(line.upper())
            self.check_line("x" + line)

    def test_wrong_words(self):
        for line in (
            "", "x", "1", "*", "lets x = 1", "Let x = 1", "let", "let x", "let x =", "let x 1", "let x : 1", "let = x 1", "let x == 1", "let x=1",
            "let x = 1 2", "set x . y", "set x y = 1", "set x.y = 1", "set x , y = 1", "set x . y : 1", "drop", "drop x y", "drop 1", "say",
            "say x y", "say +", "when", "when 1 2", "when 1:", "try 1", "try:", "again", "again a b", "use", "use a b", "use a as", "use a as b c",
            "use a to b", "use a as a.b", "lazy a", "lazy a b", "lazy a as", "lazy a to b", "far t a x", "far t a x y", "far t a x to y",
            "far t a x as", "far t.u a x as y", "from a", "from a use", "from use x", "from a x", "from a import x", "from a use x,", "from a use x y",
            "from a use x as", "from a use as y,", "from a use x as y as z", "from a use x to y", "from a use x,y", "from a use x , y",
            "from a use , x", "from a use x,, y", "from a use *, x", "from a use x, *", "from a use * as x", "from a use x as *", "from a use **",
            "from a . use x", "from . a use x", "from a. use x", "from a..b use x", "def", "def 1", "def f a, b", "def f(a)", "def f:", "box",
            "box a b", "give", "give 1 2", "top", "outer", "show", "hide", "top a, b", "show *", "elif", "else 1", "else:", "ELSE", "pass", "# x",
            "num 1", "rows", "say x # y", "say 1;", "say 1, 2",
        ):
            self.check_line(line)

    def test_the_same_name_twice_in_a_pair(self):
        for line in ("from a use x as x", "from a use y, x as x", "from ..a use as as as"):
            self.check_line(line)

    def test_names_numbers_and_paths(self):
        for bad in ("X", "aB", "abcdefghi", "x1", "x_y", "\u00e4", "\u00df", "x-y", ".", "(", ")", "'x'"):
            for line in (
                f"let {bad} = 1", f"set x . {bad} = 1", f"drop {bad}", f"say {bad}", f"again {bad}", f"use {bad}", f"use a as {bad}",
                f"use a.{bad}", f"lazy a as {bad}", f"far {bad} a x as y", f"far t {bad} x as y", f"far t a {bad} as y", f"far t a x as {bad}",
                f"from a use {bad}", f"from a use x as {bad}", f"from a use {bad} as x", f"from .a.{bad} use x", f"def {bad}", f"def f {bad}",
                f"box {bad}", f"give {bad}", f"top {bad}", f"outer a {bad}", f"show {bad}", f"hide {bad} a", f"say ( x . {bad} )",
                f"say ( {bad} + 1 )", f"say ( f ( {bad} ) )",
            ):
                self.check_line(line)
        for bad in ("01", "00", "-0", "1q", "q1", "+1", "--1", "- 1", "-", "1.0", "1.", ".5", "1e3", "0x1", "1_0", "10000", "-10000", "9" * 5000, "\u0661", "\u00b2", "1,"):
            for line in (f"say {bad}", f"let x = {bad}", f"when ( 1 + {bad} )", f"set {bad} . x = 1", f"give ( f ( {bad} ) )"):
                self.check_line(line)
        for bad in ("a.b.c.d.e", "", ".", "a.", ".a", "a..b", "a.B", "a/b", "a.1", "a,b"):
            for line in (f"use {bad}", f"use {bad} as x", f"lazy {bad} as x", f"again {bad}", f"far t {bad} x as y"):
                self.check_line(line)
        for bad in ("a.b.c.d.e", "....a", "....", "a.", "..a.", ".a..b", "", "..A", ". .", "0", "1.a", "*"):
            self.check_line(f"from {bad} use x")
            self.check_line(f"from {bad} use *")

    def test_too_many_names_and_names_twice(self):
        for line in (
            "def f a b c d e f g", "top a b c d e f g", "outer a b c d e f g", "show a b c d e f g", "hide a b c d e f g", "def f a a", "top a a",
            "outer a b a", "show a a", "hide b a a", "from a use " + ", ".join(["x as y"] * 7), "say ( f ( 1 1 1 1 ) )",
        ):
            self.check_line(line)

    def test_expressions(self):
        for bad in (
            "(", ")", "( )", "( x )", "( x", "x )", "( x . )", "( . x )", "( x . y", "( x . 1 )", "( x . y . z )", "( x . ( y ) )", "( x ( ) ", "( x ( )",
            "( x ( y )", "( ( ) )", "( x ( y , z ) )", "( x y )", "( x + )", "( + x )", "( x + y", "( x + y + z )", "( x - y )", "( x > y )", "( x * y )",
            "( x = y )", "( x <= y )", "(x + y)", "( x+y )", "x . y", "x + y", "x ( )", "( x ( ) ) )", "( ( x + y )", "[ x + y ]", "( x ( ) ( ) )", "f()",
        ):
            for line in ("say " + bad, "let x = " + bad, "when " + bad, f"set {bad} . x = 1", "give " + bad):
                self.check_line(line)

    def test_expressions_that_are_nested_too_deep(self):
        deeper = ("( {} . x )", "( {} ( ) )", "( f ( {} ) )", "( {} + 1 )", "( 1 + {} )", "( {} < 1 )", "( 1 < {} )")
        for first in deeper:
            for last in deeper:
                four = first.format(last.format(first.format("x")))
                self.assertEqual(written(read(f"say {four}\n")), f"say {four}\n")
                self.check_line("say " + last.format(four))
                self.check_line("set " + last.format(four) + " . x = 1")
        for sign in ("( " * 5000, "( " * 5000 + "x", "( f ( " * 5000):
            self.check_line("say " + sign.rstrip())

    def test_a_text_that_ends_without_a_line_feed(self):
        self.assertEqual(self.fault("let x = 1"), 0)
        self.assertEqual(self.fault(" "), 0)
        self.assertEqual(self.fault("nothing"), 0)
        self.assertEqual(self.fault("let x = 1\nlet y = 2"), 1)
        self.assertEqual(self.fault("let x = 1\nlet y = 2\n "), 2)
        self.assertEqual(self.fault("let x = 1\nlet y = 2\n\t"), 2)
        self.assertEqual(self.fault("def f\n  say 1\n  say 2"), 2)
        # Lines that are bad come first, and rows that are not valid come last.
        self.assertEqual(self.fault("let x = 1\nnothing\nlet y = 2"), 1)
        self.assertEqual(self.fault("give 1\nsay 1\nsay 2"), 2)
        self.assertEqual(self.fault("say 1\n" * 41 + "x"), 41)

    def test_empty_lines(self):
        self.assertEqual(self.fault("\n"), 0)
        self.assertEqual(self.fault("\n\n"), 0)
        self.assertEqual(self.fault("say 1\n\n"), 1)
        self.assertEqual(self.fault("say 1\n\nsay 2\n"), 1)
        self.assertEqual(self.fault("def f\n  \n  say 1\n"), 1)
        self.assertEqual(self.fault("say 1\n \n"), 1)

    def test_other_ends_of_lines(self):
        for sign in ("\r", "\r\n", "\x0b", "\x0c", "\x1c", "\x85", "\u2028"):
            self.assertEqual(self.fault(f"say 1{sign}say 2\n"), 0)

    def test_depth(self):
        for line in ("say 1", "drop x", "use a", "show a"):
            self.assertEqual(self.fault(lines(line, "  say 1")), 1)
            self.assertEqual(self.fault(lines("def f", "  drop x", "    say 1")), 2)
        for blanks in (1, 2, 3, 4, 6, 8, 9):
            self.assertEqual(self.fault(lines(" " * blanks + "say 1")), 0)
            self.assertEqual(self.fault(lines("say 1", " " * blanks + "say 1")), 1)
        for blanks in (1, 3, 4, 5, 6, 8):
            self.assertEqual(self.fault(lines("def f", " " * blanks + "say 1")), 1)
            self.assertEqual(self.fault(lines("when 1", "else", " " * blanks + "say 1")), 2)
            self.assertEqual(self.fault(lines("try", "  say 1", " " * blanks + "say 1")), 2)
        self.assertEqual(self.fault(lines("box a", "  box b", "    say 1", "   say 1")), 3)
        self.assertEqual(self.fault(lines("def f", "\tsay 1")), 1)

    def test_nested_too_deep(self):
        for row in ("box a", "def f", "try", "when 1"):
            four = ["  " * depth + row for depth in range(4)]
            self.assertEqual(written(read(lines(*four))), lines(*four))
            self.assertEqual(self.fault(lines(*four, " " * 8 + "say 1")), 4)
            self.assertEqual(self.fault(lines(*four, " " * 8 + row)), 4)
            self.assertEqual(self.fault(lines("say 1", *four, " " * 8 + "say 1", "nothing")), 5)
        four = ["  " * depth + "try" for depth in range(4)]
        self.assertEqual(self.fault(lines(*four, " " * 6 + "else", " " * 8 + "say 1")), 5)
        self.assertEqual(self.fault(lines(*["  " * depth + "try" for depth in range(2000)])), 4)

    def test_else_where_none_can_be(self):
        for before in (
            (), ("say 1",), ("def f",), ("def f", "  say 1"), ("box b",), ("box b", "  say 1"), ("when 1", "say 1"), ("try", "  say 1", "say 1"),
            ("when 1", "else", "  say 1"), ("try", "  say 1", "else", "  say 1"), ("when 1", "  say 1", "else", "  when 1", "    say 1", "  else", "    say 1"),
        ):
            with self.subTest(before=before):
                self.assertEqual(self.fault(lines(*before, "else", "  say 2")), len(before))
        self.assertEqual(self.fault(lines("when 1", "  else", "    say 1")), 1)
        self.assertEqual(self.fault(lines("when 1", "  say 1", "  else", "    say 1")), 2)
        self.assertEqual(self.fault(lines("def f", "  when 1", "    say 1", "else", "  say 1")), 3)
        self.assertEqual(self.fault(lines("when 1", " else", "  say 1")), 1)
        self.assertEqual(self.fault(lines("when 1", "    else", "  say 1")), 1)

    def test_an_else_without_deeper_rows(self):
        for head in (("when 1",), ("try",), ("when 1", "  say 1"), ("try", "  say 1", "  try")):
            at = len(head)
            for behind in ((), ("say 1",), ("else", "  say 1"), ("", "  say 1"), ("nothing",)):
                with self.subTest(head=head, behind=behind):
                    self.assertEqual(self.fault(lines(*head, "else", *behind)), at)
            self.assertEqual(self.fault(lines(*head, "else") + "  say 1"), at)
        self.assertEqual(self.fault(lines("def f", "  when 1", "  else", "  say 1")), 2)
        self.assertEqual(self.fault(lines("def f", "  when 1", "  else", "say 1")), 2)
        # A deeper row that is bad itself is the bad one.
        self.assertEqual(self.fault(lines("try", "else", "  nothing")), 2)

    def test_words_around_an_else(self):
        for line in ("else ", "else  ", " else", "else\t", "elses", "else say 1", "Else"):
            self.assertEqual(self.fault(lines("try", line, "  say 1")), 1)

    def test_rows_that_are_not_valid_where_they_stand(self):
        for text, row in (
            (("give 1",), 0), (("say 1", "top a"), 1), (("say 1", "box b", "  give 1"), 1), (("def f", "  box b", "    say 1", "    give 1"), 0),
            (("say 1", "def f", "  show a"), 1), (("show a", "say 1", "show b"), 2), (("show a", "hide a"), 1), (("hide a", "def f", "  say 1", "hide b"), 3),
            (("try", "  say 1", "else", "  say 2", "outer a"), 4), (("def f", "  from a use *"), 0), (("say 1", "when 1", "else", "  hide a"), 1),
            (("def f a", "  top a"), 0), (("def f", "  say 1", "def g", "  say 1", "  outer x"), 2), (("box b", "  from . use *"), 0),
            (("def f", "  top a", "  say 1", "  def g a", "    outer a", "    top a"), 0),
            (("when 1", "  say 1", "else", "  try", "    say 1", "  else", "    give 1", "give 2"), 0),
        ):
            with self.subTest(text=text):
                self.assertEqual(self.fault(lines(*text)), row)
                self.assertEqual(self.fault(lines("def z", "  say 1", *text)), row + 2)
                self.assertEqual(self.fault(lines(*text, "nothing")), len(text))

    def test_more_than_forty_rows(self):
        self.assertEqual(self.fault("say 1\n" * 41), 0)
        self.assertEqual(self.fault("def f\n" + "  say 1\n" * 40), 0)
        self.assertEqual(self.fault("say 1\n" * 45 + "give 1\n"), 45)
        self.assertEqual(self.fault("say 1\n" * 45 + "nothing\n"), 45)
        self.assertEqual(self.fault("try\nelse\n" + "  say 1\n" * 40), 0)
        self.assertEqual(len(read("try\nelse\n" + "  say 1\n" * 39)[0][2]), 39)

    def test_the_first_of_several(self):
        self.assertEqual(self.fault(lines("say 1", "nothing", "  say 1", "else")), 1)
        self.assertEqual(self.fault(lines("give 1", "say 10000")), 1)
        self.assertEqual(self.fault(lines("def f", "  give", "give 1")), 1)
        self.assertEqual(self.fault(lines("give 1", "top a")), 0)
        self.assertEqual(self.fault(lines("say 1", "show a", "show b", "give 1")), 2)


class Chance(unittest.TestCase):
    """Random rows, and texts that are changed in one place."""

    def some_name(self, chance):
        return chance.choice(("a", "x", "as", "use", "else", "let", "abcdefgh"))

    def some_path(self, chance):
        return tuple(self.some_name(chance) for _ in range(chance.choice((1, 1, 2, 4))))

    def some_expression(self, chance, room=4):
        word = chance.choice(("num", "name") if room == 1 else ("num", "name", "dot", "call", "plus", "less"))
        if word == "num":
            return num(chance.choice((0, 1, -1, 9999, -9999, 42)))
        if word == "name":
            return name(self.some_name(chance))
        first = self.some_expression(chance, room - 1)
        if word == "dot":
            return (word, first, self.some_name(chance))
        if word == "call":
            return (word, first, tuple(self.some_expression(chance, room - 1) for _ in range(chance.randrange(4))))
        return (word, first, self.some_expression(chance, room - 1))

    def some_pairs(self, chance):
        return tuple((self.some_name(chance), self.some_name(chance)) for _ in range(chance.randrange(1, 7)))

    def some_part(self, chance, kind, room, in_def):
        """A part of a row: an expression, a name, a path, pairs, names or rows."""
        if kind == "rows":
            return self.some_rows(chance, room - 1, in_def) if room > 1 else ()
        if kind == "names":
            return tuple(dict.fromkeys(self.some_name(chance) for _ in range(chance.randrange(7))))
        if kind == "name or none":
            return chance.choice((None, self.some_name(chance)))
        makers = {"e": self.some_expression, "name": self.some_name, "path": self.some_path, "pairs": self.some_pairs}
        return makers[kind](chance)

    def some_row(self, chance, room, in_def):
        word, *kinds = chance.choice((
            "let name e", "set e name e", "drop name", "say e", "when e rows rows", "try rows rows", "again path", "use path name_or_none",
            "lazy path name", "far name path name name", "from pairs", "def name names rows", "box name rows", "give e",
        )).split()
        if word == "give" and not in_def:
            word = "say"
        if word == "from":
            dots = chance.randrange(4)
            where = () if dots > 0 and chance.random() < 0.3 else self.some_path(chance)
            return (word, dots, where, self.some_pairs(chance))
        inside = {"def": True, "box": False}.get(word, in_def)
        return (word, *[self.some_part(chance, kind.replace("_", " "), room, inside) for kind in kinds])

    def some_rows(self, chance, room, in_def):
        return tuple(self.some_row(chance, room, in_def) for _ in range(chance.choice((0, 1, 1, 2, 3))))

    def some_valid_rows(self, chance):
        while True:
            rows = self.some_rows(chance, 4, False)
            try:
                return rows, written(rows)
            except BadRows:
                continue

    def test_there_and_back(self):
        chance = random.Random(22)
        for _ in range(1500):
            rows, text = self.some_valid_rows(chance)
            self.assertEqual(read(text), rows)

    def test_a_text_is_written_in_one_way_only(self):
        chance = random.Random(23)
        good = 0
        for _ in range(4000):
            text = self.some_valid_rows(chance)[1]
            at = chance.randrange(len(text) + 1)
            sign = chance.choice((" ", "  ", "\n", "x", "1", "-", ".", ",", "(", ")", "=", "*", "else", "else\n", "\t", "", "\n  "))
            changed = text[:at] + sign + text[at + chance.randrange(3):]
            try:
                rows = read(changed)
            except BadText as bad:
                self.assertTrue(0 <= bad.row <= changed.count("\n"))
                # All that comes before the bad line may stand, unless a row is bad that begins there, or an else follows.
                continue
            self.assertEqual(written(rows), changed)
            good += 1
        self.assertGreater(good, 100)

    def test_the_first_bad_line_is_told(self):
        chance = random.Random(24)
        for _ in range(1500):
            text = self.some_valid_rows(chance)[1]
            listed = text.split("\n")[:-1]
            at = chance.randrange(len(listed) + 1)
            with self.assertRaises(BadText) as caught:
                read("".join(line + "\n" for line in listed[:at] + ["?"] + listed[at:]))
            # An else before it has no deeper rows then.
            self.assertEqual(caught.exception.row, at - 1 if at > 0 and listed[at - 1].strip() == "else" else at)


if __name__ == "__main__":
    unittest.main()

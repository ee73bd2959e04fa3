"""What several test files need: short ways to write rows, and a way to ask for BadRows."""

from modulehall.errors import BadRows
from modulehall.scopes import bound, reached

ONE = ("num", 1)


def name(x):
    return ("name", x)


def say(x):
    return ("say", ("name", x))


def let(x):
    return ("let", x, ONE)


def fault(case, rows):
    """Return the field `at` of the BadRows that rows cause, the same by each function that takes rows."""
    fields = []
    for function in (bound, reached):
        with case.assertRaises(BadRows) as caught:
            function(rows)
        fields.append(caught.exception.at)
    case.assertEqual(fields[0], fields[1])
    return fields[0]


def valid(case, rows):
    """Fail unless rows are valid."""
    case.assertIsInstance(bound(rows), list)
    case.assertIsInstance(reached(rows), list)

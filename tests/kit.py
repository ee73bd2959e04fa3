"""What several test files need: short ways to write rows, shelves and worlds, and ways to ask for errors."""

from modulehall.errors import BadRows, Fell
from modulehall.scopes import bound, reached
from modulehall.shelves import Shelf
from modulehall.worlds import World

ONE = ("num", 1)


def num(n):
    return ("num", n)


def name(x):
    return ("name", x)


def dot(x, *ys):
    """The expression x.y.z, where x is a name or an expression."""
    e = name(x) if isinstance(x, str) else x
    for y in ys:
        e = ("dot", e, y)
    return e


def call(x, *es):
    return ("call", name(x) if isinstance(x, str) else x, es)


def plus(e, f):
    return ("plus", e, f)


def say(x):
    return ("say", ("name", x))


def let(x, n=1):
    return ("let", x, num(n))


def tell(n):
    """Say a number, as a mark that a row was reached."""
    return ("say", num(n))


def path(dotted):
    return tuple(dotted.split("."))


def use(dotted, x=None):
    return ("use", path(dotted), x)


def take(dotted, *xs, dots=0):
    """A from that takes names as they are."""
    return ("from", dots, path(dotted) if dotted else (), tuple((x, x) for x in xs))


def take_all(dotted, dots=0):
    return ("from", dots, path(dotted) if dotted else (), "*")


def plain(*rows):
    return ("plain", rows)


def package(*rows):
    return ("package", rows)


def wide(*rows):
    return ("wide", rows)


def shelf(modules, **places):
    """A shelf of a place `home` with modules by their dotted paths, and of other places behind it."""
    given = {"home": modules, **places}
    return Shelf({place: {path(key): given[place][key] for key in given[place]} for place in given})


def world(modules, most=500, **places):
    """A world of one edition `one` with such a shelf."""
    return World({"one": shelf(modules, **places)}, most=most)


def loaded(modules, *dotted, most=500, **places):
    """Such a world in which paths have been loaded."""
    new = world(modules, most, **places)
    for each in dotted:
        new.load(path(each))
    return new


def put(world, dotted, module, place="home"):
    """Put a module, and let it be found also if its place was searched before."""
    world.put(place, path(dotted), *module)
    world.forget()


def heard(world):
    """The values that were said, without editions and paths."""
    return [value for _, _, value in world.said()]


def fell(case, function, *given, **named):
    """Return the word and the dotted path of the failure that a call raises."""
    with case.assertRaises(Fell) as caught:
        function(*given, **named)
    case.assertIsInstance(caught.exception.path, tuple)
    return caught.exception.word, ".".join(caught.exception.path)


def fell_load(case, modules, dotted, most=500, **places):
    """Return the failure of the first load in a new world."""
    return fell(case, world(modules, most, **places).load, path(dotted))


def said_of(*rows, **others):
    """What is said when a module `m` of these rows is loaded, beside other modules of one name."""
    return heard(loaded({"m": plain(*rows), **others}, "m"))


def fault(case, rows):
    """Return the field `at` of the BadRows that rows cause, the same by each function that takes rows."""
    fields = []
    for function in (bound, reached):
        with case.assertRaises(BadRows) as caught:
            function(rows)
        fields.append(caught.exception.at)
    case.assertEqual(fields[0], fields[1])
    return fields[0]


def valid(case, rows):
    """Fail unless rows are valid."""
    case.assertIsInstance(bound(rows), list)
    case.assertIsInstance(reached(rows), list)

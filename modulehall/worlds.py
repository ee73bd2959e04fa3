"""Worlds: they load modules, keep what was loaded and said, and log what they were told to do."""

from modulehall.checks import check_most, check_path
from modulehall.copies import fresh
from modulehall.editions import Edition
from modulehall.engine import carry_out
from modulehall.errors import BadDeed, BadEdition, BadName, BadPlace, BadShelf, BadSort, NoModule
from modulehall.forms import is_name, is_sort, word_of
from modulehall.machine import Realm
from modulehall.shelves import Shelf
from modulehall.validity import check_rows
from modulehall.values import told

MOST = 500
MOST_EDITIONS = 3

# How many items a row of a log has, with its word.
DEEDS = {"load": 3, "again": 3, "forget": 1, "put": 6, "cut": 4}


def are_shelves(shelves):
    """Tell whether a value is the shelves of a world's editions."""
    if not isinstance(shelves, dict) or not 1 <= len(shelves) <= MOST_EDITIONS:
        return False
    return all([is_name(name) and isinstance(shelf, Shelf) for name, shelf in shelves.items()])


def check_place(edition, place):
    """Raise BadPlace unless an edition has a place."""
    if not isinstance(place, str) or place not in edition.held:
        raise BadPlace("no such place")


class World:
    """One to three editions, each with a shelf of its own, in which modules are loaded."""

    def __init__(self, shelves, *, most=MOST):
        if not are_shelves(shelves):
            raise BadShelf("not the shelves of a world")
        check_most(most)
        self.most = most
        self.realm = Realm({name: Edition(name, shelf.places()) for name, shelf in shelves.items()})
        self.deeds = []

    def load(self, path, *, edition=None):
        """Load a path."""
        self.note(("load", path, edition))
        self.command("load", path, edition)

    def again(self, path, *, edition=None):
        """Load a path again that is loaded."""
        self.note(("again", path, edition))
        self.command("again", path, edition)

    def forget(self):
        """Forget what was searched, in all editions."""
        self.note(("forget",))
        for edition in self.realm.parts.values():
            edition.records = {}

    def put(self, place, path, sort, rows, *, edition=None):
        """Give a place a module."""
        self.note(("put", place, path, sort, rows, edition))
        chosen = self.chosen(edition)
        check_place(chosen, place)
        check_path(path)
        if not is_sort(sort):
            raise BadSort("not a sort of module")
        check_rows(rows)
        chosen.held[place][path] = (sort, rows)

    def cut(self, place, path, *, edition=None):
        """Take a module away from a place."""
        self.note(("cut", place, path, edition))
        chosen = self.chosen(edition)
        check_place(chosen, place)
        check_path(path)
        if path not in chosen.held[place]:
            raise NoModule("no such module in this place")
        del chosen.held[place][path]

    def do(self, row):
        """Execute the command that a row of a log describes."""
        word = word_of(row)
        if word not in DEEDS or len(row) != DEEDS[word]:
            raise BadDeed("not a row of a log")
        if word == "load":
            self.load(row[1], edition=row[2])
        elif word == "again":
            self.again(row[1], edition=row[2])
        elif word == "forget":
            self.forget()
        elif word == "put":
            self.put(row[1], row[2], row[3], row[4], edition=row[5])
        else:
            self.cut(row[1], row[2], edition=row[3])

    def editions(self):
        """Return the names of the editions, in order."""
        return list(self.realm.parts)

    def table(self, *, edition=None):
        """Return the paths in the table, in the order in which they were entered."""
        return list(self.chosen(edition).loaded)

    def names(self, path, *, edition=None):
        """Return the names of a module in the table, in the order in which they came into existence."""
        return list(self.module_at(path, edition).has)

    def value(self, path, name, *, edition=None):
        """Return what a name of a module in the table has."""
        module = self.module_at(path, edition)
        if not isinstance(name, str) or name not in module.has:
            raise BadName("no such name")
        return told(module.has[name])

    def said(self):
        """Return what was said: triples of an edition, a path and a value."""
        return list(self.realm.heard)

    def log(self):
        """Return all commands, in order, also those that were refused or failed."""
        return fresh(self.deeds)

    def note(self, deed):
        """Log a command."""
        self.deeds.append(fresh(deed))

    def command(self, word, path, edition):
        """Check the arguments of a load or an again, and carry it out."""
        chosen = self.chosen(edition)
        check_path(path)
        carry_out(self.realm, self.most, (word, chosen, path))

    def chosen(self, edition):
        """Return the edition of a name, or the first one for None."""
        if edition is None:
            return list(self.realm.parts.values())[0]
        if not isinstance(edition, str) or edition not in self.realm.parts:
            raise BadEdition("no such edition")
        return self.realm.parts[edition]

    def module_at(self, path, edition):
        """Return the module of a path in the table of an edition."""
        chosen = self.chosen(edition)
        check_path(path)
        if path not in chosen.loaded:
            raise NoModule("not in the table")
        return chosen.loaded[path]

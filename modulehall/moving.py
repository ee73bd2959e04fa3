"""Moving a name from one module to another."""

from modulehall.blocks import own_declared
from modulehall.checks import check_found, check_most, check_name, check_shelf, check_two_paths
from modulehall.leaning import bind_alike, leaned_names, led_row, rows_bind
from modulehall.meanings import senses
from modulehall.outcomes import first_fallen
from modulehall.rewriting import rewritten, with_rows, without_dots
from modulehall.shelves import Shelf, module_on
from modulehall.sources import source
from modulehall.validity import MOST_ROWS, counted
from modulehall.worlds import MOST


class Moved:
    """A name or a module is moved: the new shelf."""

    def __init__(self, shelf):
        self.shelf = shelf

    def __eq__(self, other):
        return isinstance(other, Moved) and self.shelf == other.shelf


class Cant:
    """A name or a module cannot be moved: the word and the path of the first reason."""

    def __init__(self, word, path):
        self.word = word
        self.path = path

    def __eq__(self, other):
        return isinstance(other, Cant) and self.word == other.word and self.path == other.path


def moved(shelf, path, name, other, *, most=MOST):
    """Move a name of a module to another module: return a Moved or a Cant."""
    check_shelf(shelf)
    check_two_paths(path, other)
    check_found(shelf, path)
    check_found(shelf, other)
    check_name(name)
    check_most(most)
    row = movable_row(shelf, path, name)
    if row is None:
        return Cant("bound", path)
    return moved_row(shelf, path, row, other, most)


def movable_row(shelf, path, name):
    """Return the row that alone binds a name in a module, or None if there is none or it cannot be moved."""
    if len(senses(shelf, path, name)) != 1:
        return None
    for row in module_on(shelf, path)[1]:
        if row[0] in ("let", "def", "box") and row[1] == name:
            return row
    return None


def moved_row(shelf, path, row, other, most):
    """Move the row that alone binds a name in a module to another module."""
    name = row[1]
    if name in (own_declared(module_on(shelf, path)[1], "hide") or ()):
        return Cant("hidden", path)
    if len(senses(shelf, other, name)) > 0:
        return Cant("taken", other)
    names = leaned_names(shelf, path, row)
    if any([led_row(shelf, path, each) is None for each in names]):
        return Cant("leans", path)
    bound_there = [each for each in names if rows_bind(shelf, other, each)]
    if not all([bind_alike(shelf, path, other, each) for each in bound_there]):
        return Cant("taken", other)
    led = tuple([led_row(shelf, path, each) for each in names if each not in bound_there])
    changes = new_rows(shelf, path, row, other, led)
    for each, rows in changes.items():
        if counted(rows) > MOST_ROWS:
            return Cant("many", each)
    return settled(shelf, Shelf(with_rows(shelf, changes)), {}, most)


def settled(before, after, moves, most):
    """Return the new shelf as a Moved, or a Cant if a path no longer loads as it did."""
    fallen = first_fallen(before, after, moves, most)
    return Moved(after) if fallen is None else Cant("falls", fallen)


def new_rows(shelf, path, row, other, led):
    """Return the rows of all modules that are found, by their paths in order, when a row is moved."""
    changes = {}
    for each in shelf.paths():
        sort, rows = module_on(shelf, each)
        if each == path:
            changes[each] = tuple([without_dots(other, ((row[1], row[1]),)) if old == row else old for old in rows])
            continue
        if each == other:
            rows = rows + led + (row,)
        changes[each] = redirected(rows, each, sort, path, row[1], other)
    return changes


def redirected(rows, reader, sort, path, name, other):
    """Return the rows of a module that reads, where each from takes a name from another module than from a path."""
    def change(row):
        """Return the rows that stand for a row."""
        takes = row[0] == "from" and row[3] != "*" and source(reader, sort, row) == path
        if takes and any([pair[0] == name for pair in row[3]]):
            return parted(row[3], path, name, other)
        return [row]

    return rewritten(rows, change)


def parted(pairs, path, name, other):
    """Return the froms of a path into which pairs are split, where a name is taken from another module."""
    listed = []
    kept = []
    for pair in pairs:
        if pair[0] == name:
            if len(kept) > 0:
                listed.append(without_dots(path, tuple(kept)))
            kept = []
            listed.append(without_dots(other, (pair,)))
        else:
            kept.append(pair)
    if len(kept) > 0:
        listed.append(without_dots(path, tuple(kept)))
    return listed

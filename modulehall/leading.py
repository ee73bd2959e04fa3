"""Moving a module to another path."""

from modulehall.blocks import all_rows
from modulehall.checks import check_found, check_most, check_shelf, check_two_paths
from modulehall.meanings import offers
from modulehall.moving import Cant, settled
from modulehall.rewriting import rewritten, with_rows, without_dots
from modulehall.shelves import Shelf, is_found, module_on
from modulehall.sources import is_open_below, source
from modulehall.worlds import MOST


def relocated(shelf, path, other, *, most=MOST):
    """Move a module from a path to another: return a Moved or a Cant."""
    check_shelf(shelf)
    check_two_paths(path, other)
    check_found(shelf, path)
    check_most(most)
    if any([is_below(each, path) for each in shelf.paths()]):
        return Cant("below", path)
    if any([other in modules for modules in shelf.places().values()]):
        return Cant("taken", other)
    if len(other) > 1 and not may_stand_below(shelf, path, other[:-1]):
        return Cant("parent", other)
    for each in shelf.paths():
        if is_bare(shelf, each, path):
            return Cant("bare", each)
    return settled(shelf, renamed(shelf, path, other), {path: other}, most)


def is_below(path, above):
    """Tell whether a path is below another."""
    return len(path) > len(above) and path[:len(above)] == above


def may_stand_below(shelf, path, parent):
    """Tell whether the module of a path, in its place, would be found below a parent."""
    if parent == path or not is_found(shelf, parent):
        return False
    sort = module_on(shelf, parent)[0]
    return sort == "wide" or (is_open_below(sort) and shelf.found(parent) == shelf.found(path))


def is_bare(shelf, reader, path):
    """Tell whether the rows of a module that reads name a path so that it cannot be replaced by another."""
    sort, rows = module_on(shelf, reader)
    for row in all_rows(rows):
        if row[0] == "use" and row[2] is None and (row[1] == path or row[1][:1] == path):
            return True
        # A path of one name has no parent, and no from takes from the empty path.
        if row[0] == "from" and source(reader, sort, row) == path[:-1] and takes(shelf, reader, row, path):
            return True
    return False


def takes(shelf, reader, row, path):
    """Tell whether a from, which takes from a path's parent, takes the last name of the path."""
    if row[3] == "*":
        return offers(shelf, path[:-1], path[-1], reader)
    return any([pair[0] == path[-1] for pair in row[3]])


def renamed(shelf, path, other):
    """Return a shelf that has the module of a path at another path, and rows that say so."""
    changes = {each: readdressed(shelf, each, path, other) for each in shelf.paths()}
    places = with_rows(shelf, changes)
    modules = places[shelf.found(path)]
    modules[other] = modules[path]
    del modules[path]
    return Shelf(places)


def readdressed(shelf, reader, path, other):
    """Return the rows of a module that reads, where what refers to a path refers to another."""
    sort, rows = module_on(shelf, reader)

    def change(row):
        """Return the rows that stand for a row."""
        if row[0] == "from":
            return [readdressed_from(row, source(reader, sort, row), reader, path, other)]
        if row[0] in ("use", "lazy", "again") and row[1] == path:
            return [row[:1] + (other,) + row[2:]]
        return [row]

    return rewritten(rows, change)


def readdressed_from(row, taken, reader, path, other):
    """Return a from, which takes from a path `taken`, as it is when a module has moved."""
    if taken == path:
        return without_dots(other, row[3])
    # A from that leads nowhere has no path to write without dots.
    if reader == path and taken is not None:
        return without_dots(taken, row[3])
    return row

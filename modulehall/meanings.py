"""What a name of a module means, determined from the rows alone."""

from modulehall.blocks import bindings, block_rows, own_declared
from modulehall.errors import BadName, BadShelf, NoModule
from modulehall.forms import LONGEST_PATH, is_name
from modulehall.shelves import Shelf
from modulehall.sources import source


def meaning(shelf, path, name):
    """Return what a name of a module on a shelf means."""
    if not isinstance(shelf, Shelf):
        raise BadShelf("not a shelf")
    # The shelf itself raises BadPath.
    if shelf.found(path) is None:
        raise NoModule("not found")
    if not is_name(name):
        raise BadName("not a name")
    return resolved(shelf, path, name)


def resolved(shelf, path, name):
    """Follow froms from a name of a module that is found to what it means."""
    passed = []
    while (path, name) not in passed:
        passed.append((path, name))
        listed = senses(shelf, path, name)
        if len(listed) == 0:
            return ("none",)
        if len(listed) > 1:
            return ("many",)
        if listed[0][0] != "from":
            return listed[0]
        path, name = listed[0][1], listed[0][2]
        if not is_found(shelf, path):
            return ("none",)
    return ("ring",)


def is_found(shelf, path):
    """Tell whether a path is found; None, for a from that leads nowhere, and longer paths are not."""
    return path is not None and len(path) <= LONGEST_PATH and shelf.found(path) is not None


def module_on(shelf, path):
    """Return the sort and the rows of a module that is found."""
    return shelf.held[shelf.found(path)][path]


def senses(shelf, path, name):
    """Return what each binding of a name of a module means by itself.

    For a from this is `("from", p, x)`, where p is the path from which it takes x, or None.
    """
    sort, rows = module_on(shelf, path)
    listed = own_senses(shelf, path, name)
    for row in from_alls(rows):
        taken = source(path, sort, row)
        if is_found(shelf, taken) and offers(shelf, taken, name, path):
            listed.append(("from", taken, name))
    return listed


def own_senses(shelf, path, name):
    """Return what the bindings of a name mean, without those by from-all."""
    sort, rows = module_on(shelf, path)
    listed = [sense(path, sort, name, row) for bound_name, row in bindings(rows) if bound_name == name]
    below = path + (name,)
    # Below a plain module nothing is found.
    if is_found(shelf, below):
        listed.append(("module", below))
    return listed


def sense(path, sort, name, row):
    """Return what a row that binds a name in a module means for it."""
    word = row[0]
    if word == "use":
        return ("module", row[1][:1] if row[2] is None else row[1])
    if word == "lazy":
        return ("module", row[1])
    if word == "from":
        # If several pairs bind the name, the meaning is many, so that it does not matter which one this is.
        taken = [x for x, y in row[3] if y == name]
        return ("from", source(path, sort, row), taken[0])
    return ("own", path, name)


def from_alls(rows):
    """Return the from-alls among a module's rows."""
    return [row for row in block_rows(rows) if row[0] == "from" and row[3] == "*"]


def offers(shelf, path, name, examined):
    """Tell whether a from-all of a module that is found binds a name.

    The show of a module decides alone. Of modules without one, those that are examined already, and the path
    `examined`, whose bindings of the name are asked for, yield none.
    """
    passed = {examined: True}
    waiting = [path]
    while len(waiting) > 0:
        path = waiting.pop()
        sort, rows = module_on(shelf, path)
        shown = own_declared(rows, "show")
        if shown is not None:
            if name in shown:
                return True
        elif path not in passed and name not in (own_declared(rows, "hide") or ()):
            if len(own_senses(shelf, path, name)) > 0:
                return True
            sources = [source(path, sort, row) for row in from_alls(rows)]
            waiting.extend([each for each in sources if is_found(shelf, each)])
        passed[path] = True
    return False

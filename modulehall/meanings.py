"""What a name of a module means, determined from the rows alone."""

from modulehall.blocks import bindings, block_rows, own_declared
from modulehall.checks import check_found, check_name, check_path, check_shelf
from modulehall.shelves import is_found, module_on
from modulehall.sources import source


def meaning(shelf, path, name):
    """Return what a name of a module on a shelf means."""
    check_shelf(shelf)
    check_path(path)
    check_found(shelf, path)
    check_name(name)
    return resolved(shelf, path, name)


def resolved(shelf, path, name):
    """Follow froms from a name of a module that is found to what it means."""
    passed = []
    while (path, name) not in passed:
        passed.append((path, name))
        listed = senses(shelf, path, name)
        if len(listed) == 0:
            return ("none",)
        if len(listed) > 1:
            return ("many",)
        if listed[0][0] != "from":
            return listed[0]
        path, name = listed[0][1], listed[0][2]
        if not is_found(shelf, path):
            return ("none",)
    return ("ring",)


def senses(shelf, path, name):
    """Return what each binding of a name of a module means by itself.

    For a from this is `("from", p, x)`, where p is the path from which it takes x, or None.
    """
    return row_senses(shelf, path, name) + all_senses(shelf, path, name) + below_senses(shelf, path, name)


def row_senses(shelf, path, name):
    """Return what the bindings mean by rows that name what they bind."""
    sort, rows = module_on(shelf, path)
    return [sense(path, sort, name, row) for bound_name, row in bindings(rows) if bound_name == name]


def all_senses(shelf, path, name):
    """Return what the bindings by from-alls mean."""
    sort, rows = module_on(shelf, path)
    sources = [source(path, sort, row) for row in from_alls(rows)]
    return [("from", each, name) for each in sources if is_found(shelf, each) and offers(shelf, each, name, path)]


def below_senses(shelf, path, name):
    """Return what a binding by a module below means, in a list, which is empty if there is none."""
    below = path + (name,)
    # Below a plain module nothing is found.
    return [("module", below)] if is_found(shelf, below) else []


def sense(path, sort, name, row):
    """Return what a row that binds a name in a module means for it."""
    word = row[0]
    if word == "use":
        return ("module", row[1][:1] if row[2] is None else row[1])
    if word == "lazy":
        return ("module", row[1])
    if word == "from":
        # If several pairs bind the name, the meaning is many, so that it does not matter which one this is.
        taken = [x for x, y in row[3] if y == name]
        return ("from", source(path, sort, row), taken[0])
    return ("own", path, name)


def from_alls(rows):
    """Return the from-alls among a module's rows."""
    return [row for row in block_rows(rows) if row[0] == "from" and row[3] == "*"]


def offers(shelf, path, name, examined):
    """Tell whether a from-all of a module that is found binds a name.

    The show of a module decides alone. Of modules without one, those that are examined already, and the path
    `examined`, whose bindings of the name are asked for, yield none.
    """
    passed = {examined: True}
    waiting = [path]
    while len(waiting) > 0:
        path = waiting.pop()
        sort, rows = module_on(shelf, path)
        shown = own_declared(rows, "show")
        if shown is not None:
            if name in shown:
                return True
        elif path not in passed and name not in (own_declared(rows, "hide") or ()):
            if len(row_senses(shelf, path, name) + below_senses(shelf, path, name)) > 0:
                return True
            sources = [source(path, sort, row) for row in from_alls(rows)]
            waiting.extend([each for each in sources if is_found(shelf, each)])
        passed[path] = True
    return False

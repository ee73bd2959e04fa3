"""Which names of its module a row leans on, and how they can be led along to another module."""

from modulehall.blocks import bindings
from modulehall.meanings import all_senses, resolved, row_senses, senses
from modulehall.rewriting import without_dots
from modulehall.scopes import module_reads
from modulehall.shelves import module_on
from modulehall.sources import source


def leaned_names(shelf, path, row):
    """Return the names of a module, other than its own, that one of its rows leans on, in order."""
    touched = module_reads((row,), [], []) + [name for name, binding in bindings((row,))]
    return [name for name in sorted(set(touched)) if name != row[1] and len(senses(shelf, path, name)) > 0]


def led_row(shelf, path, name):
    """Return a row that binds a name elsewhere as a module binds it, or None if it cannot be led along."""
    if len(senses(shelf, path, name)) != 1:
        return None
    sort, rows = module_on(shelf, path)
    for row in rows:
        if row[0] == "use" and row[2] == name:
            return row
        if row[0] == "from" and row[3] != "*":
            pairs = [pair for pair in row[3] if pair[1] == name]
            if len(pairs) > 0:
                return taking_alone(source(path, sort, row), row, pairs[0])
    return None


def taking_alone(taken, row, pair):
    """Return a from of one pair of a from, whose module has the path `taken`."""
    if taken is None:
        # It leads beyond the top, or too deep, so that there is no path to write without dots.
        return ("from", row[1], row[2], (pair,))
    return without_dots(taken, (pair,))


def rows_bind(shelf, path, name):
    """Tell whether the rows of a module bind a name; a module below it does not count."""
    return len(row_senses(shelf, path, name)) + len(all_senses(shelf, path, name)) > 0


def bind_alike(shelf, path, other, name):
    """Tell whether another module binds a name once, and to the same as a module that binds it once."""
    sense = resolved(shelf, path, name)
    if sense[0] == "module" and resolved(shelf, other, name) == sense:
        return True
    listed = row_senses(shelf, path, name)
    # A from-all of the same module is no pair of a from, and a from that leads nowhere has no path.
    same_pair = row_senses(shelf, other, name) == listed and listed[0][1] is not None
    return same_pair and len(senses(shelf, other, name)) == 1

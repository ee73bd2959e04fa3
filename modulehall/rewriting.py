"""New rows for the modules of a shelf."""

from modulehall.forms import nested, with_nested
from modulehall.shelves import module_on


def rewritten(rows, change):
    """Return rows in which each one, wherever it stands, gives way to the list of rows that `change` returns for it."""
    listed = []
    for row in rows:
        inside = [rewritten(part, change) for part in nested(row)]
        listed.extend(change(with_nested(row, inside)))
    return tuple(listed)


def without_dots(path, pairs):
    """Return a from of a path that says it without dots."""
    return ("from", 0, path, pairs)


def with_rows(shelf, changes):
    """Return the places of a shelf, where the modules that are found have new rows by their paths."""
    places = shelf.places()
    for path, rows in changes.items():
        sort = module_on(shelf, path)[0]
        places[shelf.found(path)][path] = (sort, rows)
    return places

"""From which module a from takes."""

from modulehall.forms import LONGEST_PATH


def is_open_below(sort):
    """Tell whether modules of a sort may have modules below them."""
    return sort != "plain"


def source(path, sort, row):
    """Return the path from which a from in a module of a path and a sort takes, or None if there is none."""
    dots, below = row[1], row[2]
    if dots == 0:
        return below
    package = path if is_open_below(sort) else path[:-1]
    ups = dots - 1
    if ups > len(package):
        return None
    whole = package[:len(package) - ups] + below
    return whole if 1 <= len(whole) <= LONGEST_PATH else None

"""Checks of arguments that several functions take."""

from modulehall.errors import BadName, BadNumber, BadPath, BadShelf, NoModule
from modulehall.forms import is_integer, is_name, is_path
from modulehall.shelves import Shelf

LARGEST_MOST = 2000


def check_shelf(shelf):
    """Raise BadShelf unless a value is a shelf."""
    if not isinstance(shelf, Shelf):
        raise BadShelf("not a shelf")


def check_path(path):
    """Raise BadPath unless a value is a path."""
    if not is_path(path):
        raise BadPath("not a path")


def check_two_paths(path, other):
    """Raise BadPath unless two values are different paths."""
    check_path(path)
    check_path(other)
    if path == other:
        raise BadPath("the paths are the same")


def check_found(shelf, path):
    """Raise NoModule unless a path is found on a shelf."""
    if shelf.found(path) is None:
        raise NoModule("not found")


def check_name(name):
    """Raise BadName unless a value is a name."""
    if not is_name(name):
        raise BadName("not a name")


def check_most(most):
    """Raise BadNumber unless a value can be the number of rows that a command may run."""
    if not is_integer(most, 0, LARGEST_MOST):
        raise BadNumber("not a number of rows")

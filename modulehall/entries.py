"""How each path of a shelf would load."""

from modulehall.checks import check_most, check_shelf
from modulehall.errors import Fell
from modulehall.worlds import MOST, World


def entries(shelf, *, most=MOST):
    """Return pairs of a path and how a new world loads it, for all paths of a shelf, in order."""
    check_shelf(shelf)
    check_most(most)
    return [(path, entry(shelf, path, most)) for path in shelf.paths()]


def entry(shelf, path, most):
    """Return how a new world that has only a shelf loads a path."""
    world = World({"only": shelf}, most=most)
    try:
        world.load(path)
    except Fell as fell:
        return ("fell", fell.word, fell.path)
    return ("whole", list(world.realm.wholes))

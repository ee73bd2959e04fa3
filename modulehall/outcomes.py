"""Whether the modules of a shelf still load as they did before a change."""

from modulehall.errors import Fell
from modulehall.worlds import World


def first_fallen(before, after, moves, most):
    """Return the first path that loads whole on a shelf, but afterwards does not, or with other outputs; else None.

    The dict `moves` tells which paths have others afterwards.
    """
    for path in before.paths():
        outputs = whole_outputs(before, path, moves, most)
        if outputs is not None and whole_outputs(after, moves.get(path, path), {}, most) != outputs:
            return path
    return None


def whole_outputs(shelf, path, moves, most):
    """Return what is said when a new world loads a path, or None if it fails; in which modules does not matter."""
    world = World({"only": shelf}, most=most)
    try:
        world.load(path)
    except Fell:
        return None
    return [comparable(said[2], moves) for said in world.said()]


def comparable(value, moves):
    """Return a value that was said without what a change of the shelf may change about it."""
    if isinstance(value, int):
        return value
    if value[0] == "module":
        return ("module", moves.get(value[1], value[1]))
    word, path, name, number = value
    return (word, name)

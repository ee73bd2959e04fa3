"""Shelves: places with modules, and where a path is found on them."""

from modulehall.errors import BadPath, BadShelf
from modulehall.forms import LONGEST_PATH, is_name, is_path, is_sort, is_tuple
from modulehall.validity import are_valid

MOST_PLACES = 4


def is_module(path, module):
    """Tell whether a place may have a module, a pair of a sort and rows, at a path."""
    return is_path(path) and is_tuple(module, 2, 2) and is_sort(module[0]) and are_valid(module[1])


def is_place(name, modules):
    """Tell whether a shelf may have a place of a name with these modules."""
    if not is_name(name) or not isinstance(modules, dict):
        return False
    return all([is_module(path, module) for path, module in modules.items()])


def are_places(places):
    """Tell whether a value is the places of a shelf."""
    if not isinstance(places, dict) or not 1 <= len(places) <= MOST_PLACES:
        return False
    return all([is_place(name, modules) for name, modules in places.items()])


def copied(places):
    """Return a copy of places that shares no dict with them."""
    return {name: {path: modules[path] for path in modules} for name, modules in places.items()}


class Shelf:
    """One to four places, in order, each with modules."""

    def __init__(self, places):
        if not are_places(places):
            raise BadShelf("not the places of a shelf")
        self.order = list(places)
        self.held = copied(places)

    def __eq__(self, other):
        return isinstance(other, Shelf) and self.order == other.order and self.held == other.held

    def places(self):
        """Return the places as a dict from names to dicts from paths to pairs of a sort and rows."""
        return copied(self.held)

    def found(self, path):
        """Return the name of the place where a path is found, or None."""
        if not is_path(path):
            raise BadPath("not a path")
        for name in self.searched(path):
            if path in self.held[name]:
                return name
        return None

    def paths(self):
        """Return all paths that are found, in order."""
        listed = [path for modules in self.held.values() for path in modules]
        return [path for path in sorted(set(listed)) if self.found(path) is not None]

    def searched(self, path):
        """Return the names of the places where a path is searched, in order."""
        parent = path[:-1]
        if len(parent) == 0:
            return list(self.order)
        place = self.found(parent)
        if place is None:
            return []
        sort = self.held[place][parent][0]
        if sort == "wide":
            return list(self.order)
        return [place] if sort == "package" else []


def is_found(shelf, path):
    """Tell whether a path is found; None, for a from that leads nowhere, and longer paths are not."""
    return path is not None and len(path) <= LONGEST_PATH and shelf.found(path) is not None


def module_on(shelf, path):
    """Return the sort and the rows of a module that is found."""
    return shelf.held[shelf.found(path)][path]

"""One edition of a world: its places, its table and its records of what was searched."""

from modulehall.sources import is_open_below


class Edition:
    """An edition with a name and the places of its shelf, which it keeps: they belong to it alone."""

    def __init__(self, name, places):
        self.name = name
        self.held = places
        self.loaded = {}
        self.records = {}

    def seek(self, path):
        """Return the name of the place where a path is found, or None."""
        for place in self.searched(path):
            if path in self.recorded(place, path[:-1]) and path in self.held[place]:
                return place
        return None

    def searched(self, path):
        """Return the names of the places that are to be searched for a path, in order."""
        parent = path[:-1]
        if len(parent) == 0:
            return list(self.held)
        place, sort = self.standing(parent)
        if place is None or not is_open_below(sort):
            return []
        return list(self.held) if sort == "wide" else [place]

    def standing(self, path):
        """Return the place and the sort of a module, in the table or not; they are None if it is not found."""
        if path in self.loaded:
            module = self.loaded[path]
            return module.place, module.kind
        place = self.seek(path)
        if place is None:
            return None, None
        return place, self.held[place][path][0]

    def recorded(self, place, parent):
        """Return which paths a place had below a parent when it was first searched for them."""
        key = (place, parent)
        if key not in self.records:
            self.records[key] = [path for path in self.held[place] if path[:-1] == parent]
        return self.records[key]

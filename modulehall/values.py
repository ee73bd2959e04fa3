"""What names can have: numbers, defs, boxes, modules and lazy values, of which all but numbers are objects."""

from modulehall.blocks import call_names, declared, own_declared


class Lazy:
    """A module of an edition that is loaded only when its name is read."""

    def __init__(self, edition, path):
        self.edition = edition
        self.path = path


class Def:
    """A def with the module and the call in which it was created; the call is None if there was none."""

    def __init__(self, module, row, around, number):
        self.module = module
        self.name = row[1]
        self.parameters = row[2]
        self.rows = row[3]
        self.around = around
        self.number = number
        self.own = call_names(row)
        self.tops = declared(row[3], "top")


class Box:
    """A box with the module in which it was created."""

    def __init__(self, module, name, number):
        self.module = module
        self.name = name
        self.number = number
        self.has = {}


class Module:
    """A module that is or was in the table of an edition."""

    def __init__(self, edition, path):
        self.edition = edition
        self.path = path
        self.place = None
        self.kind = None
        self.shown = None
        self.hidden = ()
        self.whole = False
        self.has = {}

    def start(self, place, sort, rows):
        """Become half-loaded by rows of a sort that stand in a place; what they declare holds at once."""
        self.place = place
        self.kind = sort
        self.shown = own_declared(rows, "show")
        self.hidden = own_declared(rows, "hide") or ()
        self.whole = False

    def hides(self, name, reader):
        """Tell whether a name is hidden from the rows of a module."""
        # A module that was loaded anew is the same one for this, so the objects are not compared.
        same = self.edition == reader.edition and self.path == reader.path
        return name in self.hidden and not same


def told(value):
    """Return how a value is represented outside of the world."""
    if isinstance(value, Def):
        return ("def", value.module.path, value.name, value.number)
    if isinstance(value, Box):
        return ("box", value.module.path, value.name, value.number)
    if isinstance(value, Module):
        return ("module", value.path)
    if isinstance(value, Lazy):
        return ("lazy", value.path)
    return value

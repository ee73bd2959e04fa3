"""Which names of a module its rows bind and read."""

from modulehall.blocks import bindings, call_names, declared
from modulehall.forms import names_read, nested
from modulehall.validity import check_rows


def bound(rows):
    """Return the pairs of a name of the module and the word of the row that binds it, in order."""
    check_rows(rows)
    return [(name, row[0]) for name, row in bindings(rows)]


def reached(rows):
    """Return the names that rows read as names of the module, sorted."""
    check_rows(rows)
    return sorted(set(module_reads(rows, [], [])))


def module_reads(rows, calls, tops):
    """Return the names of the module that a block reads, where calls have the names `calls`.

    Of these, the names `tops` belong to the module nevertheless, but only in this very block.
    """
    listed = []
    for row in rows:
        listed.extend([name for name in names_read(row) if name in tops or name not in calls])
        if row[0] == "def":
            listed.extend(module_reads(row[3], calls + call_names(row), declared(row[3], "top")))
        else:
            # A box may lack a name when it is read, so the rows of a box read what is around it.
            for part in nested(row):
                listed.extend(module_reads(part, calls, tops))
    return listed

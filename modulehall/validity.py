"""Which rows are valid as the rows of a module."""

from modulehall.blocks import call_names, declared
from modulehall.errors import BadRows
from modulehall.forms import has_form, nested

DEEPEST_ROW = 4
MOST_ROWS = 40


def is_show_or_hide(row):
    """Tell whether a row says what other modules may take from this one."""
    return row[0] in ("show", "hide")


def may_stand(row, depth, block):
    """Tell whether a row may stand at a depth in a block: that of a module, a def or a box."""
    if is_show_or_hide(row):
        return depth == 1
    if row[0] in ("give", "top", "outer"):
        return block == "def"
    if row[0] == "from" and row[3] == "*":
        return block == "module"
    return True


def is_row(row, depth, block):
    """Tell whether a value is a row with valid nested rows, apart from what the blocks declare."""
    if not has_form(row) or not may_stand(row, depth, block):
        return False
    inside = row[0] if row[0] in ("def", "box") else block
    return all([are_rows(part, depth + 1, inside) for part in nested(row)])


def are_rows(rows, depth, block):
    """Tell whether the items of a tuple are such rows at a depth."""
    if len(rows) > 0 and depth > DEEPEST_ROW:
        return False
    return all([is_row(row, depth, block) for row in rows])


def keeps_scopes(row, around):
    """Tell whether the declarations inside a row are right, where the enclosing defs bind the names `around`."""
    if row[0] == "def":
        if not declares_well(row, around):
            return False
        around = around + call_names(row)
    return all([keeps_scopes(each, around) for part in nested(row) for each in part])


def declares_well(row, around):
    """Tell whether a def declares only names that it may declare."""
    tops = declared(row[3], "top")
    outers = declared(row[3], "outer")
    if any([name in row[2] for name in tops + outers]):
        return False
    return all([name in around and name not in tops for name in outers])


def clashes(row, before):
    """Tell whether a row is a show or hide that does not go with the shows and hides before it."""
    if not is_show_or_hide(row):
        return False
    return any([other[0] == row[0] or name in other[1] for other in before for name in row[1]])


def counted(rows):
    """Return the number of rows, including all nested ones."""
    return len(rows) + sum([counted(part) for row in rows for part in nested(row)])


def check_rows(rows):
    """Raise BadRows unless the rows are valid as the rows of a module."""
    if not isinstance(rows, tuple):
        raise BadRows(None)
    earlier = []
    for at, row in enumerate(rows):
        if not is_row(row, 1, "module") or not keeps_scopes(row, []) or clashes(row, earlier):
            raise BadRows(at)
        if is_show_or_hide(row):
            earlier.append(row)
    if counted(rows) > MOST_ROWS:
        raise BadRows(None)


def are_valid(rows):
    """Tell whether a value is valid as the rows of a module."""
    try:
        check_rows(rows)
    except BadRows:
        return False
    return True

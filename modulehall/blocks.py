"""Which names the blocks of valid rows bind and declare."""

from modulehall.forms import nested


def binds(row):
    """Return the names that a row binds in its block, in order; a from-all binds none here."""
    word = row[0]
    if word in ("let", "drop", "def", "box"):
        return [row[1]]
    if word == "use":
        return [row[1][0] if row[2] is None else row[2]]
    if word == "lazy":
        return [row[2]]
    if word == "far":
        return [row[4]]
    if word == "from" and row[3] != "*":
        return [pair[1] for pair in row[3]]
    return []


def block_rows(rows):
    """Return the rows of a block in order: those of when and try belong to the block around them."""
    listed = []
    for row in rows:
        listed.append(row)
        if row[0] in ("when", "try"):
            for part in nested(row):
                listed.extend(block_rows(part))
    return listed


def all_rows(rows):
    """Return rows and all that are nested in them, in order."""
    listed = []
    for row in rows:
        listed.append(row)
        for part in nested(row):
            listed.extend(all_rows(part))
    return listed


def declared(rows, word):
    """Return the names that a block declares with a word, top or outer."""
    return [name for row in block_rows(rows) if row[0] == word for name in row[1]]


def call_names(row):
    """Return the names that the block of a def binds: they belong to its calls."""
    rows = row[3]
    apart = declared(rows, "top") + declared(rows, "outer")
    written = [name for each in block_rows(rows) for name in binds(each) if name not in apart]
    return list(row[2]) + written


def own_declared(rows, word):
    """Return the names that a module's rows declare with a word, show or hide, or None if they do not have it."""
    for row in rows:
        if row[0] == word:
            return row[1]
    return None


def bindings(rows, kept=None):
    """Return the pairs of a name of the module and the row that binds it, in the order of the rows.

    Of the names of this block, `kept` are those that belong to the module; None stands for all.
    """
    listed = []
    for row in rows:
        listed.extend([(name, row) for name in binds(row) if kept is None or name in kept])
        for part in nested(row):
            listed.extend(bindings(part, kept_inside(row, kept)))
    return listed


def kept_inside(row, kept):
    """Return which names that the rows inside a row bind belong to the module."""
    if row[0] == "def":
        return declared(row[3], "top")
    if row[0] == "box":
        return []
    return kept

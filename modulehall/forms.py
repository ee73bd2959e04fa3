"""What names, paths, sorts, expressions and single rows look like."""

LETTERS = "abcdefghijklmnopqrstuvwxyz"
LONGEST_NAME = 8
LONGEST_PATH = 4
MOST_NAMES = 6
MOST_DOTS = 3
MOST_ARGUMENTS = 3
LARGEST_NUMBER = 9999
DEEPEST_EXPRESSION = 4
SORTS = ("plain", "package", "wide")

# The kinds of the parts that follow the word of an expression.
EXPRESSIONS = {
    "num": ("number",),
    "name": ("name",),
    "dot": ("expression", "name"),
    "call": ("expression", "expressions"),
    "plus": ("expression", "expression"),
    "less": ("expression", "expression"),
}

# The kinds of the parts that follow the word of a row.
ROWS = {
    "let": ("name", "expression"),
    "set": ("expression", "name", "expression"),
    "drop": ("name",),
    "say": ("expression",),
    "when": ("expression", "rows", "rows"),
    "try": ("rows", "rows"),
    "again": ("path",),
    "use": ("path", "name or none"),
    "lazy": ("path", "name"),
    "far": ("name", "path", "name", "name"),
    "from": ("dots", "path or empty", "pairs"),
    "def": ("name", "parameters", "rows"),
    "box": ("name", "rows"),
    "give": ("expression",),
    "top": ("names",),
    "outer": ("names",),
    "show": ("names",),
    "hide": ("names",),
}


def is_integer(value, low, high):
    """Tell whether a value is an integer from low to high."""
    return isinstance(value, int) and not isinstance(value, bool) and low <= value <= high


def is_tuple(value, least, most):
    """Tell whether a value is a tuple of least to most items."""
    return isinstance(value, tuple) and least <= len(value) <= most


def is_name(value):
    """Tell whether a value is a name."""
    if not isinstance(value, str) or not 1 <= len(value) <= LONGEST_NAME:
        return False
    return all([letter in LETTERS for letter in value])


def is_path(value):
    """Tell whether a value is a path."""
    return is_tuple(value, 1, LONGEST_PATH) and all([is_name(name) for name in value])


def is_sort(value):
    """Tell whether a value is a sort of module."""
    return isinstance(value, str) and value in SORTS


def are_different_names(value, least):
    """Tell whether a value is a tuple of different names, of which a row takes at least so many."""
    if not is_tuple(value, least, MOST_NAMES) or not all([is_name(name) for name in value]):
        return False
    return len(set(value)) == len(value)


def word_of(value):
    """Return the word that a row or an expression begins with, or None if a value does not begin with one."""
    if isinstance(value, tuple) and len(value) > 0 and isinstance(value[0], str):
        return value[0]
    return None


def is_expression(value, room=DEEPEST_EXPRESSION):
    """Tell whether a value is an expression that is nested at most `room` deep."""
    kinds = EXPRESSIONS.get(word_of(value))
    # The depth is tested first, so that no value is followed deeper than an expression may be.
    if room == 0 or kinds is None or len(value) != len(kinds) + 1:
        return False
    return all([is_piece(kind, part, room - 1) for kind, part in zip(kinds, value[1:])])


def is_piece(kind, part, room):
    """Tell whether a part of an expression is of a kind."""
    if kind == "expression":
        return is_expression(part, room)
    if kind == "expressions":
        return is_tuple(part, 0, MOST_ARGUMENTS) and all([is_expression(each, room) for each in part])
    if kind == "number":
        return is_integer(part, -LARGEST_NUMBER, LARGEST_NUMBER)
    return is_name(part)


def is_name_or_none(value):
    """Tell whether a value may stand as the name of a use."""
    return value is None or is_name(value)


def is_path_or_empty(value):
    """Tell whether a value may stand as the path of a from with dots."""
    return is_tuple(value, 0, 0) or is_path(value)


def are_dots(value):
    """Tell whether a value may stand as the number of dots of a from."""
    return is_integer(value, 0, MOST_DOTS)


def is_pair(value):
    """Tell whether a value is a pair of names."""
    return is_tuple(value, 2, 2) and is_name(value[0]) and is_name(value[1])


def are_pairs(value):
    """Tell whether a value may stand for what a from takes."""
    if isinstance(value, str):
        return value == "*"
    return is_tuple(value, 1, MOST_NAMES) and all([is_pair(pair) for pair in value])


def are_names(value):
    """Tell whether a value may stand as the names of a show, hide, top or outer."""
    return are_different_names(value, 1)


def are_parameters(value):
    """Tell whether a value may stand as the names of a def."""
    return are_different_names(value, 0)


def are_some_rows(value):
    """Tell whether a value may stand for nested rows, which are looked at one by one elsewhere."""
    return isinstance(value, tuple)


PARTS = {
    "name": is_name,
    "name or none": is_name_or_none,
    "names": are_names,
    "parameters": are_parameters,
    "path": is_path,
    "path or empty": is_path_or_empty,
    "dots": are_dots,
    "pairs": are_pairs,
    "expression": is_expression,
    "rows": are_some_rows,
}


def is_part(kind, part):
    """Tell whether a part of a row is of a kind."""
    test = PARTS[kind]
    return test(part)


def has_form(row):
    """Tell whether a value is a row by itself, whatever its nested rows are and wherever it stands."""
    kinds = ROWS.get(word_of(row))
    if kinds is None or len(row) != len(kinds) + 1:
        return False
    if not all([is_part(kind, part) for kind, part in zip(kinds, row[1:])]):
        return False
    return row[0] != "from" or row[1] > 0 or len(row[2]) > 0


def row_parts(row, kind):
    """Return the parts of a row that are of a kind, in order."""
    return [part for each, part in zip(ROWS[row[0]], row[1:]) if each == kind]


def nested(row):
    """Return the tuples of rows that stand directly inside a row, in order."""
    return row_parts(row, "rows")


def with_nested(row, inside):
    """Return a row with other tuples of rows directly inside it, in order."""
    head = [part for kind, part in zip(ROWS[row[0]], row[1:]) if kind != "rows"]
    return (row[0], *head, *inside)


def names_in(expression):
    """Return the names that an expression reads, in order."""
    word = expression[0]
    if word == "num":
        return []
    if word == "name":
        return [expression[1]]
    inner = [expression[1]]
    if word == "call":
        inner.extend(list(expression[2]))
    elif word != "dot":
        inner.append(expression[2])
    return [name for each in inner for name in names_in(each)]


def names_read(row):
    """Return the names that the expressions of a row read, without those of its nested rows."""
    return [name for each in row_parts(row, "expression") for name in names_in(each)]

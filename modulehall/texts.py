"""Rows as text, and back."""

from modulehall.errors import BadRows, BadText
from modulehall.forms import nested, with_nested
from modulehall.lines import line_of, row_of
from modulehall.validity import DEEPEST_ROW, check_rows

INDENT = "  "
ELSE = "else"
# What may follow the line of a row before the next one of its depth, by the number of tuples of rows inside it.
FOLLOWING = ("nothing", "rows", "rows or else")


def written(rows):
    """Return rows as text."""
    check_rows(rows)
    return "".join([line + "\n" for line in lines_of(rows, "")])


def lines_of(rows, indent):
    """Return the lines of rows that are indented, with all that are nested in them."""
    listed = []
    for row in rows:
        listed.append(indent + line_of(row))
        for number, part in enumerate(nested(row)):
            if number > 0 and len(part) > 0:
                listed.append(indent + ELSE)
            listed.extend(lines_of(part, indent + INDENT))
    return listed


def read(text):
    """Return the rows that a text is written for."""
    if not isinstance(text, str):
        raise BadText(0)
    lines = text.split("\n")
    rest = lines.pop()
    marks = marked(lines)
    if rest != "":
        raise BadText(len(lines))
    rows = rows_at(marks, 0, 0)[0]
    try:
        check_rows(rows)
    except BadRows as bad:
        raise BadText(beginning(marks, bad.at)) from None
    return rows


def marked(lines):
    """Return for each line its depth and its row, which has no rows inside it yet; an else has None."""
    marks = []
    # What may follow the last line and those around it, by their depths.
    expected = []
    for at, line in enumerate(lines):
        depth = depth_of(line)
        content = line.lstrip(" ")
        row = row_of(content)
        if depth is None or not may_follow(expected, depth):
            raise BadText(at)
        if content == ELSE:
            if expected[depth:depth + 1] != ["rows or else"] or not goes_deeper(lines, at):
                raise BadText(at)
            expected = expected[:depth] + ["rows"]
        elif row is None:
            raise BadText(at)
        else:
            expected = expected[:depth] + [FOLLOWING[len(nested(row))]]
        marks.append((depth, row))
    return marks


def indent_of(line):
    """Return the number of blanks before a line."""
    return len(line) - len(line.lstrip(" "))


def depth_of(line):
    """Return how deep a line is nested, or None if it is not written at a depth that there is."""
    depth = indent_of(line) // len(INDENT)
    whole = indent_of(line) == depth * len(INDENT)
    return depth if whole and depth < DEEPEST_ROW else None


def may_follow(expected, depth):
    """Tell whether a line of a depth may follow."""
    return depth == 0 or (depth <= len(expected) and expected[depth - 1] != "nothing")


def goes_deeper(lines, at):
    """Tell whether the line behind a line is nested deeper."""
    return at + 1 < len(lines) and indent_of(lines[at + 1]) > indent_of(lines[at])


def rows_at(marks, at, depth):
    """Return the rows of a depth that begin in a line, and the line behind them."""
    rows = []
    while at < len(marks) and marks[at][0] == depth:
        row, at = row_at(marks, at)
        rows.append(row)
    return tuple(rows), at


def row_at(marks, at):
    """Return the row that begins in a line, with the rows inside it, and the line behind it."""
    depth, row = marks[at]
    at += 1
    inside = []
    for number in range(len(nested(row))):
        if number > 0 and at < len(marks) and marks[at] == (depth, None):
            at += 1
        part, at = rows_at(marks, at, depth + 1)
        inside.append(part)
    return with_nested(row, inside), at


def beginning(marks, at):
    """Return the line in which a module's own row begins, or 0 for None."""
    if at is None:
        return 0
    return [line for line, mark in enumerate(marks) if mark[0] == 0 and mark[1] is not None][at]

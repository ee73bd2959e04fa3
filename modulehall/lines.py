"""Single rows as lines of text, without the rows inside them, and back."""

from modulehall.forms import ROWS, has_form
from modulehall.phrases import READERS, WRITERS, Misread, Words

# What follows the word of a row: words and signs as they are, and kinds of parts in capital letters.
LINES = {
    "let": ("NAME", "=", "EXPRESSION"),
    "set": ("EXPRESSION", ".", "NAME", "=", "EXPRESSION"),
    "drop": ("NAME",),
    "say": ("EXPRESSION",),
    "when": ("EXPRESSION",),
    "try": (),
    "again": ("PATH",),
    "use": ("PATH", "ALIAS"),
    "lazy": ("PATH", "as", "NAME"),
    "far": ("NAME", "PATH", "NAME", "as", "NAME"),
    "from": ("ORIGIN", "use", "PAIRS"),
    "def": ("NAME", "NAMES"),
    "box": ("NAME",),
    "give": ("EXPRESSION",),
    "top": ("NAMES",),
    "outer": ("NAMES",),
    "show": ("NAMES",),
    "hide": ("NAMES",),
}


def line_of(row):
    """Return a row as a line, without the rows inside it."""
    # The dots and the path of a from are one word.
    values = [(row[1], row[2]), row[3]] if row[0] == "from" else list(row[1:])
    words = [row[0]]
    at = 0
    for piece in LINES[row[0]]:
        if piece in WRITERS:
            write = WRITERS[piece]
            words.extend(write(values[at]))
            at += 1
        else:
            words.append(piece)
    return " ".join(words)


def row_of(line):
    """Return the row of a line, with no rows inside it, or None if the line is not written as a row is."""
    try:
        row = read_row(Words(line.split(" ")))
    except Misread:
        return None
    return row if has_form(row) and line_of(row) == line else None


def read_row(words):
    """Read a row that takes up all words of a line."""
    word = words.take()
    if word not in LINES:
        raise Misread("not the word of a row")
    values = read_values(words, LINES[word])
    if words.ahead() is not None:
        raise Misread("the line goes on")
    if word == "from":
        origin, pairs = values
        return (word, *origin, pairs)
    inside = [() for kind in ROWS[word] if kind == "rows"]
    return (word, *values, *inside)


def read_values(words, pieces):
    """Read the parts of a row that follow its word."""
    values = []
    for piece in pieces:
        if piece in READERS:
            read = READERS[piece]
            values.append(read(words))
        else:
            words.expect(piece)
    return values

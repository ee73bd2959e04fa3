"""The parts of a row as words of text, and back.

What is read need not be valid, and its parts may be written otherwise: lines are tested as a whole.
"""

from modulehall.forms import DEEPEST_EXPRESSION

DIGITS = "0123456789"
LONGEST_NUMBER = 5
SIGNS = {"+": "plus", "<": "less"}


class Misread(Exception):
    """The words of a line are not those of a row."""


class Words:
    """The words of a line, of which the next one is at the index `at`."""

    def __init__(self, listed):
        self.listed = listed
        self.at = 0

    def ahead(self):
        """Return the next word, or None behind the last one."""
        return self.listed[self.at] if self.at < len(self.listed) else None

    def take(self):
        """Return the next word and go on behind it."""
        word = self.ahead()
        if word is None:
            raise Misread("the line ends too early")
        self.at += 1
        return word

    def expect(self, word):
        """Go on behind a word that must be the next one."""
        if self.take() != word:
            raise Misread("another word")

    def take_all(self):
        """Return all words that are left, and go on behind them."""
        words = self.listed[self.at:]
        self.at = len(self.listed)
        return words


def name_words(name):
    """Return a name as words."""
    return [name]


def read_name(words):
    """Read a name."""
    return words.take()


def names_words(names):
    """Return names as words."""
    return list(names)


def read_names(words):
    """Read names up to the end of the line."""
    return tuple(words.take_all())


def path_words(path):
    """Return a path as words."""
    return [".".join(path)]


def read_path(words):
    """Read a path."""
    return tuple(words.take().split("."))


def alias_words(name):
    """Return the name of a use, or None, as words."""
    return [] if name is None else ["as", name]


def read_alias(words):
    """Read the name of a use, which is None if the line ends."""
    if words.ahead() is None:
        return None
    words.expect("as")
    return words.take()


def origin_words(origin):
    """Return the dots and the path of a from as words."""
    dots, path = origin
    return ["." * dots + ".".join(path)]


def read_origin(words):
    """Read the dots and the path of a from."""
    word = words.take()
    dotted = word.lstrip(".")
    path = tuple(dotted.split(".")) if dotted != "" else ()
    return (len(word) - len(dotted), path)


def pairs_words(pairs):
    """Return what a from takes as words."""
    if pairs == "*":
        return ["*"]
    return [", ".join([x if x == y else f"{x} as {y}" for x, y in pairs])]


def read_pairs(words):
    """Read what a from takes, up to the end of the line."""
    text = " ".join(words.take_all())
    return "*" if text == "*" else tuple([read_pair(each.split(" ")) for each in text.split(", ")])


def read_pair(listed):
    """Read a pair of a from, from a list of its words."""
    if len(listed) == 1:
        return (listed[0], listed[0])
    if len(listed) != 3 or listed[1] != "as":
        raise Misread("not a pair")
    return (listed[0], listed[2])


def expression_words(expression):
    """Return an expression as words."""
    word = expression[0]
    if word in ("num", "name"):
        return [str(expression[1])]
    first = ["("] + expression_words(expression[1])
    if word == "dot":
        return first + [".", expression[2], ")"]
    if word == "call":
        inner = [each for argument in expression[2] for each in expression_words(argument)]
        return first + ["("] + inner + [")", ")"]
    signs = [sign for sign in SIGNS if SIGNS[sign] == word]
    return first + signs + expression_words(expression[2]) + [")"]


def read_expression(words, room=DEEPEST_EXPRESSION):
    """Read an expression that is nested at most `room` deep."""
    word = words.take()
    if word != "(":
        return ("num", int(word)) if is_number(word) else ("name", word)
    # The depth is tested first, so that no text is followed deeper than an expression may be.
    if room == 1:
        raise Misread("nested too deep")
    first = read_expression(words, room - 1)
    whole = read_behind(words, first, room - 1)
    words.expect(")")
    return whole


def is_number(word):
    """Tell whether a word can be read as a number."""
    digits = word.removeprefix("-")
    return 1 <= len(digits) <= LONGEST_NUMBER and all([digit in DIGITS for digit in digits])


def read_behind(words, first, room):
    """Read what follows the first part of an expression, and return the expression."""
    sign = words.take()
    if sign == ".":
        return ("dot", first, words.take())
    if sign == "(":
        return ("call", first, read_arguments(words, room))
    if sign not in SIGNS:
        raise Misread("not a sign")
    return (SIGNS[sign], first, read_expression(words, room))


def read_arguments(words, room):
    """Read the expressions of a call and the sign behind them."""
    listed = []
    while words.ahead() != ")":
        listed.append(read_expression(words, room))
    words.expect(")")
    return tuple(listed)


# How the parts of a row are written and read, by their kinds.
WRITERS = {
    "NAME": name_words,
    "NAMES": names_words,
    "PATH": path_words,
    "ALIAS": alias_words,
    "ORIGIN": origin_words,
    "PAIRS": pairs_words,
    "EXPRESSION": expression_words,
}

READERS = {
    "NAME": read_name,
    "NAMES": read_names,
    "PATH": read_path,
    "ALIAS": read_alias,
    "ORIGIN": read_origin,
    "PAIRS": read_pairs,
    "EXPRESSION": read_expression,
}

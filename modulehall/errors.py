"""All errors of the package."""


class ModuleError(ValueError):
    """What every error of the package derives from."""


class BadShelf(ModuleError):
    """A value that should be a shelf, or the places of one, is not."""


class BadPath(ModuleError):
    """A value that should be a path is not, or two paths are the same."""


class BadName(ModuleError):
    """A value that should be a name is not, or there is no such name."""


class BadEdition(ModuleError):
    """The world has no such edition."""


class BadPlace(ModuleError):
    """The shelf has no such place."""


class BadSort(ModuleError):
    """A value that should be a sort of module is not."""


class BadNumber(ModuleError):
    """A value that should be a number of rows is not."""


class BadDeed(ModuleError):
    """A value that should be a row of a log is not."""


class NoModule(ModuleError):
    """There is no such module."""


class BadRows(ModuleError):
    """Rows are not valid: `at` is the index of the first bad one, or None."""

    def __init__(self, at):
        super().__init__(f"the rows are not valid: {at}")
        self.at = at


class BadText(ModuleError):
    """A text is not rows: `row` is the index of the first bad line."""

    def __init__(self, row):
        super().__init__(f"the text is not valid: line {row}")
        self.row = row


class Fell(ModuleError):
    """A command of a world failed with a word, in the module of a path."""

    def __init__(self, word, path):
        super().__init__(f"{word}, in {path}")
        self.word = word
        self.path = path

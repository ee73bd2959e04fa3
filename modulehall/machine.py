"""What a world has and what it is about to do, while it carries out a command."""


class Failure(Exception):
    """A row, or the command itself, fails with a word."""

    def __init__(self, word):
        super().__init__(f"a row fails: {word}")
        self.word = word


class Realm:
    """What the commands of a world share: its editions, by name, and what has happened in it."""

    def __init__(self, parts):
        self.parts = parts
        self.heard = []
        self.wholes = []
        self.begun = 0

    def count_one(self):
        """Count a def or a box that begins, and return how many began earlier."""
        self.begun += 1
        return self.begun - 1


class Machine:
    """One command in progress.

    The agenda holds what is still to be done, the next task last, so that rows that call and load each other need no
    recursion. A task is a tuple of a word and what it needs. The pile holds the values that tasks leave for others.
    """

    def __init__(self, realm, most):
        self.realm = realm
        self.left = most
        self.depth = 0
        self.space = None
        self.agenda = []
        self.pile = []

    def plan(self, tasks):
        """Put a list of tasks before everything else that is to be done."""
        self.agenda.extend(tasks[::-1])

    def plan_rows(self, rows):
        """Put rows before everything else that is to be done."""
        self.plan([("row", row) for row in rows])

    def bind(self, name, value):
        """Bind a name in the block that is being run."""
        names = self.space.target(name)
        names[name] = value

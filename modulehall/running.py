"""Tasks that run rows."""

from modulehall.machine import Failure
from modulehall.sources import source
from modulehall.spaces import BoxSpace
from modulehall.values import Box, Def, Lazy, told


def run_let(machine, row):
    """Evaluate, then bind."""
    machine.plan([("evaluate", row[2]), ("bind", row[1])])


def run_set(machine, row):
    """Evaluate the object and the value, then assign."""
    machine.plan([("evaluate", row[1]), ("evaluate", row[3]), ("assign", row[2])])


def run_drop(machine, row):
    """Delete a name where it would be written."""
    names = machine.space.target(row[1])
    if row[1] not in names:
        raise Failure("name")
    del names[row[1]]


def run_say(machine, row):
    """Evaluate, then output."""
    machine.plan([("evaluate", row[1]), ("say",)])


def run_when(machine, row):
    """Evaluate the condition, then choose."""
    machine.plan([("evaluate", row[1]), ("choose", row[2], row[3])])


def run_try(machine, row):
    """Run the first rows with a guard behind them, which a failure looks for."""
    machine.plan([("guard", row[2], len(machine.pile))])
    machine.plan_rows(row[1])


def run_again(machine, row):
    """Load a module of the own edition again."""
    machine.plan([("again", machine.space.module.edition, row[1])])


def run_use(machine, row):
    """Load a module and bind a name to it, or to the module of the path's first name."""
    edition = machine.space.module.edition
    if row[2] is not None:
        machine.plan([("load", edition, row[1]), ("bind", row[2])])
        return
    first = row[1][0]
    machine.plan([("load", edition, row[1]), ("shed",), ("load", edition, (first,)), ("bind", first)])


def run_lazy(machine, row):
    """Bind a name without loading."""
    machine.bind(row[2], Lazy(machine.space.module.edition, row[1]))


def run_far(machine, row):
    """Take a number from a module of another edition."""
    word, name, path, x, y = row
    parts = machine.realm.parts
    if name not in parts or parts[name] == machine.space.module.edition:
        raise Failure("module")
    machine.plan([("load", parts[name], path), ("dot", x), ("bind number", y)])


def run_from(machine, row):
    """Load the module from which is taken, then take."""
    own = machine.space.module
    path = source(own.path, own.kind, row)
    if path is None:
        raise Failure("module")
    machine.plan([("load", own.edition, path), ("from", row[3])])


def run_def(machine, row):
    """Create a def and bind its name to it."""
    space = machine.space
    machine.bind(row[1], Def(space.module, row, space.call(), machine.realm.count_one()))


def run_box(machine, row):
    """Begin to run the rows of a box, which is bound behind them."""
    space = machine.space
    box = Box(space.module, row[1], machine.realm.count_one())
    machine.plan([("end box", space, box)])
    machine.plan_rows(row[2])
    machine.space = BoxSpace(box, space)


def run_give(machine, row):
    """Evaluate, then end the call."""
    machine.plan([("evaluate", row[1]), ("give",)])


def run_nothing(machine, row):
    """Do nothing: what such a row declares holds before any row is run."""


ROW_ACTIONS = {
    "let": run_let,
    "set": run_set,
    "drop": run_drop,
    "say": run_say,
    "when": run_when,
    "try": run_try,
    "again": run_again,
    "use": run_use,
    "lazy": run_lazy,
    "far": run_far,
    "from": run_from,
    "def": run_def,
    "box": run_box,
    "give": run_give,
    "top": run_nothing,
    "outer": run_nothing,
    "show": run_nothing,
    "hide": run_nothing,
}


def do_row(machine, task):
    """Count a row that is reached, and run it."""
    if machine.left == 0:
        raise Failure("spent")
    machine.left -= 1
    row = task[1]
    action = ROW_ACTIONS[row[0]]
    action(machine, row)


def do_bind(machine, task):
    """Bind a name to the value on the pile."""
    machine.bind(task[1], machine.pile.pop())


def do_bind_number(machine, task):
    """Bind a name to the value on the pile if that may pass from one edition to another."""
    value = machine.pile.pop()
    if not isinstance(value, int):
        raise Failure("mixed")
    machine.bind(task[1], value)


def do_say(machine, task):
    """Output the value on the pile."""
    module = machine.space.module
    machine.realm.heard.append((module.edition.name, module.path, told(machine.pile.pop())))


def do_choose(machine, task):
    """Go on with the rows that the condition on the pile chooses."""
    value = machine.pile.pop()
    if not isinstance(value, int):
        raise Failure("number")
    machine.plan_rows(task[1] if value != 0 else task[2])


def do_pass_guard(machine, task):
    """Do nothing: the rows before the guard have not failed."""


def do_end_box(machine, task):
    """Bind the name of a box whose rows have been run."""
    word, before, box = task
    machine.space = before
    machine.bind(box.name, box)


def undo_box(machine, task):
    """Leave a box whose rows have failed."""
    machine.space = task[1]


RUNNING = {
    "row": do_row,
    "bind": do_bind,
    "bind number": do_bind_number,
    "say": do_say,
    "choose": do_choose,
    "guard": do_pass_guard,
    "end box": do_end_box,
}

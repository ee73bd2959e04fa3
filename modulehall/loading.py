"""Tasks that load modules, run their rows and end that."""

from modulehall.machine import Failure
from modulehall.spaces import ModuleSpace
from modulehall.values import Module

DEEPEST_RUN = 30


def check_depth(machine):
    """Fail if a call or a run that begins now would be nested too deep."""
    if machine.depth >= DEEPEST_RUN:
        raise Failure("deep")


def enter_space(machine, space):
    """Go on in the space of a call or a run that begins."""
    machine.depth += 1
    machine.space = space


def leave_space(machine, before):
    """Go on in the space from which a call or a run began."""
    machine.depth -= 1
    machine.space = before


def do_load(machine, task):
    """Leave the module of a path on the pile, if need be after its parents and its rows."""
    word, edition, path = task
    if path in edition.loaded:
        machine.pile.append(edition.loaded[path])
    elif len(path) == 1:
        do_find(machine, task)
    else:
        machine.plan([("load", edition, path[:-1]), ("shed",), ("find", edition, path)])


def do_find(machine, task):
    """Load a path whose parent is loaded, or that has none."""
    word, edition, path = task
    load_found(machine, edition, path, "module")


def load_found(machine, edition, path, word):
    """Use the table, or find a path and load it; fail with a word if it is not found."""
    if path in edition.loaded:
        machine.pile.append(edition.loaded[path])
        return
    place = edition.seek(path)
    if place is None:
        raise Failure(word)
    check_depth(machine)
    module = Module(edition, path)
    edition.loaded[path] = module
    run_module(machine, module, place, "end run")


def do_again(machine, task):
    """Run the rows of a module that is whole once more."""
    word, edition, path = task
    if path not in edition.loaded:
        raise Failure("module")
    module = edition.loaded[path]
    if not module.whole:
        raise Failure("half")
    place = edition.seek(path)
    if place is None:
        raise Failure("module")
    check_depth(machine)
    run_module(machine, module, place, "end again")


def run_module(machine, module, place, ending):
    """Begin to run the rows that a module has in a place; a task with the word `ending` stands behind them."""
    sort, rows = module.edition.held[place][module.path]
    module.start(place, sort, rows)
    machine.plan([(ending, module, machine.space)])
    machine.plan_rows(rows)
    enter_space(machine, ModuleSpace(module))


def do_end_run(machine, task):
    """Make a module whole whose rows have been run, and leave it on the pile."""
    word, module, before = task
    module.whole = True
    table = module.edition.loaded
    if module.path[:-1] in table:
        parent = table[module.path[:-1]]
        parent.has[module.path[-1]] = module
    machine.realm.wholes.append(module.path)
    leave_space(machine, before)
    machine.pile.append(module)


def undo_run(machine, task):
    """Take a module whose rows have failed out of the table."""
    word, module, before = task
    del module.edition.loaded[module.path]
    leave_space(machine, before)


def do_end_again(machine, task):
    """Make a module whole whose rows have been run again, or have failed."""
    word, module, before = task
    module.whole = True
    leave_space(machine, before)


def do_shed(machine, task):
    """Take away the value that was left last."""
    machine.pile.pop()


LOADING = {
    "load": do_load,
    "find": do_find,
    "again": do_again,
    "end run": do_end_run,
    "end again": do_end_again,
    "shed": do_shed,
}

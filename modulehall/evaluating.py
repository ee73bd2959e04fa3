"""Tasks that evaluate expressions: each leaves one value on the pile."""

from modulehall.loading import check_depth, enter_space, leave_space
from modulehall.machine import Failure
from modulehall.spaces import CallSpace
from modulehall.taking import fetch
from modulehall.values import Def


def do_evaluate(machine, task):
    """Evaluate an expression."""
    expression = task[1]
    word = expression[0]
    if word == "num":
        machine.pile.append(expression[1])
    elif word == "name":
        read_name(machine, expression[1])
    elif word == "dot":
        machine.plan([("evaluate", expression[1]), ("dot", expression[2])])
    elif word == "call":
        parts = [expression[1]] + list(expression[2])
        machine.plan([("evaluate", part) for part in parts] + [("call", len(expression[2]))])
    else:
        machine.plan([("evaluate", expression[1]), ("evaluate", expression[2]), (word,)])


def read_name(machine, name):
    """Leave on the pile what a name has in the block that is being run."""
    names = machine.space.origin(name)
    if name not in names:
        raise Failure("name")
    fetch(machine, names, name)


def pop_operands(machine):
    """Take two numbers from the pile."""
    second = machine.pile.pop()
    first = machine.pile.pop()
    if not isinstance(first, int) or not isinstance(second, int):
        raise Failure("number")
    return first, second


def do_plus(machine, task):
    """Add the two values on the pile."""
    first, second = pop_operands(machine)
    machine.pile.append(first + second)


def do_less(machine, task):
    """Compare the two values on the pile."""
    first, second = pop_operands(machine)
    machine.pile.append(1 if first < second else 0)


def do_call(machine, task):
    """Call the value on the pile that lies below so many others."""
    start = len(machine.pile) - task[1]
    values = machine.pile[start:]
    del machine.pile[start:]
    called = machine.pile.pop()
    if not isinstance(called, Def) or len(called.parameters) != len(values):
        raise Failure("call")
    check_depth(machine)
    machine.plan([("end call", machine.space)])
    machine.plan_rows(called.rows)
    enter_space(machine, CallSpace(called, values))


def do_end_call(machine, task):
    """End a call whose rows have given nothing."""
    machine.pile.append(0)
    leave_space(machine, task[1])


def do_give(machine, task):
    """End a call with the value on the pile."""
    passed = machine.agenda.pop()
    while passed[0] != "end call":
        passed = machine.agenda.pop()
    leave_space(machine, passed[1])


def undo_call(machine, task):
    """End a call whose rows have failed."""
    leave_space(machine, task[1])


EVALUATING = {
    "evaluate": do_evaluate,
    "plus": do_plus,
    "less": do_less,
    "call": do_call,
    "end call": do_end_call,
    "give": do_give,
}

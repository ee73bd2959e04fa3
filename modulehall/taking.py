"""Tasks that take what a module or a box has under a name."""

from modulehall.loading import load_found
from modulehall.machine import Failure
from modulehall.sources import is_open_below
from modulehall.values import Box, Lazy, Module


def fetch(machine, names, name):
    """Leave on the pile what a dict of names has; a lazy value gives way to its module."""
    value = names[name]
    if isinstance(value, Lazy):
        machine.plan([("load", value.edition, value.path), ("settle", names, name)])
    else:
        machine.pile.append(value)


def do_settle(machine, task):
    """Let a name that had a lazy value have the module that is on the pile."""
    word, names, name = task
    names[name] = machine.pile[-1]


def check_access(machine, subject, name):
    """Fail unless the row that is being run may ask a value for a name, or assign into it."""
    if not isinstance(subject, (Module, Box)):
        raise Failure("dot")
    if isinstance(subject, Module) and subject.hides(name, machine.space.module):
        raise Failure("hidden")


def lack(subject):
    """Return the word of the failure if a module or a box does not have a name."""
    return "half" if isinstance(subject, Module) and not subject.whole else "dot"


def do_dot(machine, task):
    """Leave on the pile what the value on the pile has under a name."""
    name = task[1]
    subject = machine.pile.pop()
    check_access(machine, subject, name)
    if name not in subject.has:
        raise Failure(lack(subject))
    fetch(machine, subject.has, name)


def do_assign(machine, task):
    """Assign the value on the pile to a name in the value below it."""
    name = task[1]
    value = machine.pile.pop()
    subject = machine.pile.pop()
    check_access(machine, subject, name)
    subject.has[name] = value


def do_from(machine, task):
    """Bind what a from takes from the module on the pile."""
    pairs = task[1]
    module = machine.pile.pop()
    if pairs == "*" and module.shown is None:
        bind_all(machine, module)
        return
    if pairs == "*":
        pairs = [(name, name) for name in module.shown]
    machine.plan([each for x, y in pairs for each in (("take", module, x), ("bind", y))])


def bind_all(machine, module):
    """Bind each name that a module without a show has and does not hide; lazy values stay lazy."""
    for name in list(module.has):
        if name not in module.hidden:
            machine.bind(name, module.has[name])


def do_take(machine, task):
    """Leave on the pile what a module has under a name, or the module of that name below it."""
    word, module, name = task
    check_access(machine, module, name)
    if name in module.has:
        fetch(machine, module.has, name)
    elif is_open_below(module.kind):
        load_found(machine, module.edition, module.path + (name,), lack(module))
    else:
        raise Failure(lack(module))


TAKING = {
    "settle": do_settle,
    "dot": do_dot,
    "assign": do_assign,
    "from": do_from,
    "take": do_take,
}

"""Carries out a command: does one task after another, and finds where to go on when one fails."""

from modulehall.errors import Fell
from modulehall.evaluating import EVALUATING, undo_call
from modulehall.loading import LOADING, do_end_again, undo_run
from modulehall.machine import Failure, Machine
from modulehall.running import RUNNING, undo_box
from modulehall.taking import TAKING


def carry_out(realm, most, task):
    """Do a task in a realm with all that follows from it; it may run `most` rows."""
    machine = Machine(realm, most)
    machine.plan([task])
    while len(machine.agenda) > 0:
        take_step(machine, machine.agenda.pop())


def take_step(machine, task):
    """Do one task; if it fails, go on behind the failure."""
    action = action_for(task[0])
    try:
        action(machine, task)
    except Failure as failure:
        recover(machine, failure.word)


def action_for(word):
    """Return the function that does the tasks of a word."""
    if word in RUNNING:
        return RUNNING[word]
    if word in EVALUATING:
        return EVALUATING[word]
    if word in TAKING:
        return TAKING[word]
    return LOADING[word]


def recover(machine, word):
    """Give up tasks until a try catches a failure; raise Fell if none does."""
    path = () if machine.space is None else machine.space.module.path
    while len(machine.agenda) > 0:
        task = machine.agenda.pop()
        if task[0] == "guard" and word != "spent":
            # The values of expressions that the failure broke off lie above those from before the try.
            del machine.pile[task[2]:]
            machine.plan_rows(task[1])
            return
        give_up(machine, task)
    raise Fell(word, path) from None


def give_up(machine, task):
    """Undo what a task that will not be done was to end."""
    word = task[0]
    if word == "end run":
        undo_run(machine, task)
    elif word == "end again":
        do_end_again(machine, task)
    elif word == "end call":
        undo_call(machine, task)
    elif word == "end box":
        undo_box(machine, task)

"""Readings: the machine, the keeper or the task with a text.

The parts of a text are taken loosely at first. What comes of them has the text only if it is shown as just this text,
so what is out of place anywhere (a number, an order, a space) is found there.
"""

from seenbars.errors import GateError, Unreadable
from seenbars.keepers import Keeper
from seenbars.machines import Machine
from seenbars.tasks import Task
from seenbars.texts import show_keeper, show_machine, show_task


def index_of(word):
    """The index that a word is. Raises Unreadable(word) if it is none, or one of more than three digits."""
    if not word.isdecimal() or len(word) > 3:
        raise Unreadable(word)
    return int(word)


def row_of(text):
    """The head of the text of a state or a room, and the dict of its steps. Raises Unreadable(text)."""
    head, _, tail = text.partition(":")
    steps = {}
    if len(tail) > 0:
        for part in tail.split(","):
            words = part.split()
            if len(words) != 2:
                raise Unreadable(text)
            steps[words[0]] = index_of(words[1])
    return head, steps


def machine_of(text):
    """The machine that a text may be the text of."""
    rows = [row_of(part) for part in text.split(" / ")]
    finals = [state for state, (head, _) in enumerate(rows) if head.endswith("!")]
    return Machine([steps for _, steps in rows], finals)


def keeper_of(text):
    """The keeper that a text may be the text of."""
    rows = [row_of(part) for part in text.split(" / ")]
    return Keeper([(head.partition("[")[2].rstrip("]").split(), steps) for head, steps in rows])


def task_of(text):
    """The task that a text may be the text of. Raises Unreadable(text) if it does not have four parts."""
    parts = [part.partition(" ")[2] for part in text.split(" | ")]
    if len(parts) != 4:
        raise Unreadable(text)
    return Task(machine_of(parts[0]), machine_of(parts[1]), parts[2].split(), parts[3].split())


def read(text, take, show):
    """What one function takes from a text. Raises Unreadable(text) if the other one does not show it as this text."""
    try:
        found = take(text)
    except GateError:
        raise Unreadable(text) from None
    if show(found) != text:
        raise Unreadable(text)
    return found


def read_machine(text):
    """The machine with a text. Raises Unreadable(text) if none has it."""
    return read(text, machine_of, show_machine)


def read_keeper(text):
    """The keeper with a text. Raises Unreadable(text) if none has it."""
    return read(text, keeper_of, show_keeper)


def read_task(text):
    """The task with a text. Raises Unreadable(text) if none has it."""
    return read(text, task_of, show_task)

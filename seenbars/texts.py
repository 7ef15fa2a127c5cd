"""Texts of machines, keepers and tasks: equal ones have the same text."""


def show_rows(heads, rows):
    """The text of some heads, each with a list of tuples (event, index)."""
    steps = [",".join([f" {event} {ahead}" for event, ahead in row]) for row in rows]
    return " / ".join([f"{head}:{listed}" for head, listed in zip(heads, steps)])


def show_machine(machine):
    """The text of a machine: the texts of its least states."""
    finals = set(machine.finals)
    heads = [f"{state}!" if state in finals else f"{state}" for state in range(len(machine))]
    return show_rows(heads, machine.states)


def show_keeper(keeper):
    """The text of a keeper: the texts of its least rooms."""
    rooms = keeper.rooms
    names = [" ".join(blocked) for blocked, _ in rooms]
    heads = [f"{room} [{listed}]" for room, listed in enumerate(names)]
    return show_rows(heads, [steps for _, steps in rooms])


def show_task(task):
    """The text of a task: the texts of its plant and its rule, its blockable and its visible events."""
    return " | ".join(["plant " + show_machine(task.plant), "rule " + show_machine(task.rule),
                       " ".join(["blockable"] + task.blockable), " ".join(["visible"] + task.visible)])

"""The greatest set of runs that a gatekeeper that sees every event can pass so that an end can always be reached."""

from seenbars.graphs import reaching
from seenbars.keepers import Keeper, passed
from seenbars.tasks import rows_among


def forces_out(task, position, event, gone):
    """True if an unblockable event of the plant breaks the rule at a position, or leads to a position that is gone."""
    steps = dict(task.steps_at(position))
    if event not in steps or event in task.blockable:
        return False
    return steps[event] is None or steps[event] in gone


def ending(task, gone):
    """The list of the positions from which positions that are not gone lead to a final one."""
    positions = [position for position in task.positions if position not in gone]
    finals = task.plant.finals
    targets = [at for at, position in enumerate(positions) if position[0] in finals]
    return [positions[at] for at in reaching(rows_among(task, positions), targets)]


def next_removed(task, gone):
    """A tuple (position, reason) for a position that cannot stay if some are gone; None if all the others can."""
    others = [position for position in task.positions if position not in gone]
    for position in others:
        for event, _ in task.steps_at(position):
            if forces_out(task, position, event, gone):
                return (position, event)
    fine = ending(task, gone)
    for position in others:
        if position not in fine:
            return (position, None)
    return None


def removal(task):
    """A list of tuples (position, reason), one for each position that is not kept, each justified by those before."""
    found = []
    gone = {}
    entry = next_removed(task, gone)
    while entry is not None:
        found.append(entry)
        gone[entry[0]] = True
        entry = next_removed(task, gone)
    return found


def judge_removal(task, told):
    """True if a list of tuples (position, reason) shows that the start is not kept, otherwise False."""
    positions = task.positions
    gone = {}
    for position, reason in told:
        if position not in positions or position in gone:
            return False
        if reason is None:
            right = position not in ending(task, gone)
        else:
            right = forces_out(task, position, reason, gone)
        if not right:
            return False
        gone[position] = True
    return (0, 0) in gone


def kept(task):
    """The ascending list of the kept positions."""
    gone = {position: True for position, _ in removal(task)}
    return [position for position in task.positions if position not in gone]


def judge_kept(task, told):
    """True if a list of positions has the start and has the two properties of the kept positions, otherwise False."""
    positions = task.positions
    if (0, 0) not in told or any([position not in positions for position in told]):
        return False
    gone = {position: True for position in positions if position not in told}
    return next_removed(task, gone) is None


def greatest_keeper(task):
    """A keeper that passes just the runs that the greatest finishing gatekeeper passes; None if there is none.

    It sees every event of the plant.
    """
    positions = kept(task)
    if (0, 0) not in positions:
        return None
    # The start is the least position, so it is room 0.
    rows = rows_among(task, positions)
    blocked = [[event for event, _ in task.steps_at(position) if event not in steps]
               for position, steps in zip(positions, rows)]
    return Keeper(list(zip(blocked, rows)))


def greatest_passed(task):
    """The machine of the runs that the greatest finishing gatekeeper passes; None if there is none."""
    keeper = greatest_keeper(task)
    if keeper is None:
        return None
    return passed(task.with_visible(task.plant.events), keeper)

"""Keepers: gatekeepers with finitely many rooms, and what they pass."""

from seenbars.errors import NotBlockable, UnknownGoal
from seenbars.graphs import check_names, check_steps, events_of, least_graph, paired, reaching
from seenbars.machines import Machine, first_unlike

GOALS = ("exact", "safe", "steady", "finishing")


class Keeper:
    """A gatekeeper with finitely many rooms. It holds its least rooms only."""

    def __init__(self, rooms):
        for room, (blocked, steps) in enumerate(rooms):
            check_names(blocked)
            check_steps(room, steps, len(rooms))
        given = [room_steps for _, room_steps in rooms]
        marks = [tuple(sorted(set(room_blocked))) for room_blocked, _ in rooms]
        rows, least_marks = least_graph(with_stays(given, events_of(given)), marks)
        self._rows = [leaving(at, row) for at, row in enumerate(rows)]
        self._blocked = least_marks

    @property
    def rooms(self):
        """The list that has for each least room a tuple (blocked events, tuples (event, other room))."""
        steps = [[(event, row[event]) for event in row] for row in self._rows]
        return [(list(blocked), ways) for blocked, ways in zip(self._blocked, steps)]

    def __len__(self):
        return len(self._rows)

    def __eq__(self, other):
        return isinstance(other, Keeper) and self._rows == other._rows and self._blocked == other._blocked

    def __or__(self, other):
        events = sorted(set(events_of(self._rows) + events_of(other._rows)))
        pairs, rows = paired(with_stays(self._rows, events), with_stays(other._rows, events))
        blocked = [[*self._blocked[here], *other._blocked[there]] for here, there in pairs]
        return Keeper(list(zip(blocked, rows)))

    def blocked_after(self, view):
        """The ascending list of the events that are blocked after a list of seen events."""
        room = 0
        for event in view:
            room = self._rows[room].get(event, room)
        return list(self._blocked[room])


def with_stays(rows, events):
    """The rows in which each of the events leads from each room, to the room itself where it had no step."""
    return [{event: steps.get(event, room) for event in events} for room, steps in enumerate(rows)]


def leaving(room, steps):
    """The steps of a room that lead to another room."""
    return {event: steps[event] for event in steps if steps[event] != room}


def check_blocks(task, keeper):
    """Raises NotBlockable(event), with the least event that a keeper blocks in a room and that is not blockable."""
    blockable = task.blockable
    strange = sorted({event for blocked, _ in keeper.rooms for event in blocked if event not in blockable})
    if len(strange) > 0:
        raise NotBlockable(strange[0])


def gate(task, keeper):
    """The machine of the lists of events of the plant that the keeper does not block; each of them is complete.

    Raises NotBlockable(event).
    """
    check_blocks(task, keeper)
    visible, events = task.visible, task.plant.events
    states = []
    for room, (blocked, steps) in enumerate(keeper.rooms):
        seen = {event: ahead for event, ahead in steps if event in visible}
        states.append({event: seen.get(event, room) for event in events if event not in blocked})
    return Machine(states, list(range(len(states))))


def passes(task, keeper, run):
    """True if the keeper passes a run of the plant, otherwise False."""
    opened = gate(task, keeper)
    task.plant.state_after(run)
    return opened.has(run)


def passed(task, keeper):
    """The machine of the passed runs; they are complete if they are complete in the plant."""
    return task.plant & gate(task, keeper)


def stuck_states(machine, goal):
    """The list of the states at which a machine of passed runs fails the goal, whatever the rule says."""
    rows = [dict(steps) for steps in machine.states]
    if goal == "steady":
        good = [state for state, steps in enumerate(rows) if len(steps) > 0] + machine.finals
    elif goal == "finishing":
        good = reaching(rows, machine.finals)
    else:
        good = list(range(len(rows)))
    good_states = set(good)
    return [state for state in range(len(rows)) if state not in good_states]


def first_fault(task, keeper, goal="finishing"):
    """The first run that shows that the keeper does not have the goal, None if it has it."""
    if goal not in GOALS:
        raise UnknownGoal(goal)
    through = passed(task, keeper)
    if goal == "exact":
        return first_unlike(through, task.allowed)
    # A fault is a run of only one of these two machines, or is complete in the first one only.
    states = [dict(steps) for steps in through.states]
    stuck = Machine(states, stuck_states(through, goal))
    fine = Machine(states, []) & task.allowed
    return first_unlike(stuck, fine)


def first_parting(task, one, other):
    """The first run that only one of two keepers passes, None if there is none."""
    return first_unlike(passed(task, one), passed(task, other))

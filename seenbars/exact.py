"""Teams: several gatekeepers of one plant that pass exactly the allowed runs together."""

from seenbars.errors import NotExact
from seenbars.graphs import grouped, joint_walk, way_to
from seenbars.keepers import Keeper, gate, with_stays
from seenbars.tasks import Task, rows_among


class Team:
    """A plant and a rule, with the blockable and the visible events of each member."""

    def __init__(self, plant, rule, members):
        self._tasks = [Task(plant, rule, blockable, visible) for blockable, visible in members]
        self._plant = plant
        self._rule = rule

    @property
    def plant(self):
        """The machine that is watched."""
        return self._plant

    @property
    def rule(self):
        """The machine that says which runs are allowed."""
        return self._rule

    @property
    def members(self):
        """The list of tuples (blockable events, visible events), one for each member."""
        return [(task.blockable, task.visible) for task in self._tasks]

    def __len__(self):
        return len(self._tasks)

    def __eq__(self, other):
        if not isinstance(other, Team):
            return False
        if self._plant != other._plant or self._rule != other._rule:
            return False
        return self.members == other.members

    def task_of(self, index):
        """The task of a member."""
        return self._tasks[index]

    @classmethod
    def alone(cls, task):
        """The team whose only member is the gatekeeper of a task."""
        return cls(task.plant, task.rule, [(task.blockable, task.visible)])

    def find_fault(self):
        """A tuple (run, event, alike) that shows that no keepers pass exactly the allowed runs; None if some do."""
        rows = rows_among(self._tasks[0], self._tasks[0].positions)
        escape = first_escape(self._tasks, rows)
        if escape is None:
            return None
        run, event = escape
        return (run, event, [first_alike(task, rows, run, event) for task in self._tasks])

    def make_keepers(self):
        """A keeper for each member, which pass exactly the allowed runs together. Raises NotExact(fault)."""
        fault = self.find_fault()
        if fault is not None:
            raise NotExact(fault)
        return [strictest_keeper(task) for task in self._tasks]


def watch_of(task, rows):
    """The groups of positions that look the same, the rows of the groups, and what can be stopped at each of them."""
    visible, blockable = task.visible, task.blockable
    hidden = [event for event in task.plant.events if event not in visible]
    groups, steps = grouped(rows, visible, hidden)
    stops = [[event for event in blockable if not any([event in rows[node] for node in group])] for group in groups]
    return steps, stops


def first_escape(tasks, rows):
    """The tuple (run, event) of the first allowed run after which nobody can stop an event that breaks the rule.

    The event is the least such event. None if there is no such run.
    """
    breaking = [[name for name, ahead in tasks[0].steps_at(position) if ahead is None]
                for position in tasks[0].positions]
    events = tasks[0].plant.events
    watches = [watch_of(task, rows) for task in tasks]
    stops = [watch_stops for _, watch_stops in watches]
    places, came = joint_walk([rows] + [with_stays(steps, events) for steps, _ in watches])
    for at, place in enumerate(places):
        for event in breaking[place[0]]:
            if not any([event in stop[room] for stop, room in zip(stops, place[1:])]):
                return (way_to(came, at), event)
    return None


def first_alike(task, rows, run, event):
    """The first allowed run with the view of a run that an event can continue within the rule.

    None if there is none, or if the event is not blockable.
    """
    if event not in task.blockable:
        return None
    visible, view = task.visible, task.view_of(run)
    hidden = [other for other in task.plant.events if other not in visible]
    seen_rows = [{other: at for other in hidden} for at in range(len(view) + 1)]
    for at, step in enumerate(view):
        seen_rows[at][step] = at + 1
    places, came = joint_walk([rows, seen_rows])
    for at, (node, seen) in enumerate(places):
        if seen == len(view) and event in rows[node]:
            return way_to(came, at)
    return None


def strictest_keeper(task):
    """The keeper that blocks all that it can without blocking an allowed run."""
    steps, stops = watch_of(task, rows_among(task, task.positions))
    return Keeper(list(zip(stops, steps)))


def passed_by(team, keepers):
    """The machine of the runs that the keepers, one for each member, pass together.

    They are complete if they are complete in the plant. Raises NotBlockable(event).
    """
    gates = [gate(team.task_of(index), keeper) for index, keeper in enumerate(keepers)]
    through = team.plant
    for opened in gates:
        through = through & opened
    return through

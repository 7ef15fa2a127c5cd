"""Tasks: a plant, a rule, and the events that a gatekeeper can block and see."""

from seenbars.errors import BrokenRule, InvalidPosition, NotPossible, UnknownEvent
from seenbars.graphs import check_names
from seenbars.machines import Machine


class Task:
    """A plant and a rule, with the blockable and the visible events of the plant."""

    def __init__(self, plant, rule, blockable, visible):
        check_names(blockable)
        check_names(visible)
        check_known(plant, blockable)
        check_known(plant, visible)
        self._plant = plant
        self._rule = rule
        self._blockable = sorted(set(blockable))
        self._visible = sorted(set(visible))
        self._steps = position_steps(plant, rule)

    @property
    def plant(self):
        """The machine that is watched."""
        return self._plant

    @property
    def rule(self):
        """The machine that says which runs are allowed."""
        return self._rule

    @property
    def blockable(self):
        """The ascending list of the events that can be blocked."""
        return list(self._blockable)

    @property
    def visible(self):
        """The ascending list of the events that are seen."""
        return list(self._visible)

    @property
    def allowed(self):
        """The machine of the allowed runs; they are complete if they are complete in the plant."""
        # If all runs of the rule are complete, just the plant says what is complete in both.
        rule = Machine([dict(steps) for steps in self._rule.states], list(range(len(self._rule))))
        return self._plant & rule

    @property
    def positions(self):
        """The ascending list of the positions after allowed runs."""
        return sorted(self._steps)

    def __eq__(self, other):
        if not isinstance(other, Task):
            return False
        if self._plant != other._plant or self._rule != other._rule:
            return False
        return self._blockable == other._blockable and self._visible == other._visible

    def view_of(self, events):
        """The list of the visible ones among a list of strings."""
        return [event for event in events if event in self._visible]

    def position_after(self, run):
        """The position after an allowed run. Raises NotPossible(index), then BrokenRule(index)."""
        state = self._plant.state_after(run)
        try:
            rule_state = self._rule.state_after(run)
        except NotPossible as fault:
            raise BrokenRule(fault.value) from None
        return (state, rule_state)

    def steps_at(self, position):
        """The ascending list of tuples (event, next position) at a position; None if the event breaks the rule."""
        if position not in self._steps:
            raise InvalidPosition(position)
        return list(self._steps[position])

    def with_blockable(self, events):
        """The task with another list of blockable events."""
        return Task(self._plant, self._rule, events, self._visible)

    def with_visible(self, events):
        """The task with another list of visible events."""
        return Task(self._plant, self._rule, self._blockable, events)


def check_known(plant, events):
    """Raises UnknownEvent(event) for the first event of a list that is not an event of the plant."""
    known = plant.events
    for event in events:
        if event not in known:
            raise UnknownEvent(event)


def position_steps(plant, rule):
    """A dict from each position after an allowed run to the list of its tuples (event, next position or None)."""
    plant_rows = plant.states
    rule_rows = [dict(steps) for steps in rule.states]
    found = {}
    waiting = [(0, 0)]
    while waiting:
        position = waiting.pop()
        if position not in found:
            state, rule_state = position
            ways = rule_rows[rule_state]
            found[position] = [(event, (ahead, ways[event]) if event in ways else None)
                               for event, ahead in plant_rows[state]]
            waiting.extend([ahead for _, ahead in found[position] if ahead is not None])
    return found


def rows_among(task, positions):
    """The rows of the graph of some positions, numbered in their order; a step leads to one of them within the rule."""
    place = {position: at for at, position in enumerate(positions)}
    return [{event: place[ahead] for event, ahead in task.steps_at(position) if ahead in place}
            for position in positions]

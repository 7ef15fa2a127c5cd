"""The least sets of events that must be visible, or blockable, so that there is a gatekeeper with a goal."""

from seenbars.beliefs import menu, subsets
from seenbars.errors import UnknownGoal
from seenbars.exact import Team
from seenbars.finishing import can_finish
from seenbars.keepers import GOALS, Keeper, first_fault


def is_enough(task, goal):
    """True if some gatekeeper for the task has the goal, otherwise False. Raises UnknownGoal(goal)."""
    if goal not in GOALS:
        raise UnknownGoal(goal)
    if goal == "exact":
        return Team.alone(task).find_fault() is None
    if goal == "safe":
        # Whoever blocks all that can be blocked passes only what everybody passes.
        return first_fault(task, Keeper([(task.blockable, {})]), goal) is None
    if goal == "steady":
        return len(menu(task)) > 0
    return can_finish(task)


def least_enough(sets, tasks, goal):
    """The sets whose tasks are enough for a goal, without those that contain another one; the sets ascend in size."""
    found = []
    for events, task in zip(sets, tasks):
        is_larger = any([all([event in events for event in less]) for less in found])
        if not is_larger and is_enough(task, goal):
            found.append(events)
    return [list(events) for events in found]


def least_visible(task, goal):
    """The list of the least sets of visible events that are enough for a goal. Raises UnknownGoal(goal)."""
    sets = subsets(task.plant.events)
    return least_enough(sets, [task.with_visible(list(events)) for events in sets], goal)


def least_blockable(task, goal):
    """The list of the least sets of blockable events that are enough for a goal. Raises UnknownGoal(goal)."""
    sets = subsets(task.plant.events)
    return least_enough(sets, [task.with_blockable(list(events)) for events in sets], goal)

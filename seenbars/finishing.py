"""Finishing gatekeepers that see little: the book of their choices, or losses that show that there is none.

Beliefs, choices and plans are held as in beliefs.py. A node is a tuple of a position and a belief that has it.
"""

from seenbars.beliefs import (START, choices_of, first_choice_keeper, is_belief, is_choice, is_closed, is_end,
                              keeps_rule, listed, next_beliefs, open_steps, plan_of, reach, told_plan)
from seenbars.errors import NotVisible
from seenbars.keepers import passed


class Chart:
    """The moves of the pairs of a belief and a choice of a task. They are worked out once for each pair."""

    def __init__(self, task):
        self._task = task
        self._known = {}

    def moves(self, belief, choice):
        """The list of tuples (position, node): the choice lets the position come to an end (None) or to a node."""
        if (belief, choice) not in self._known:
            self._known[(belief, choice)] = moves_of(self._task, belief, choice)
        return self._known[(belief, choice)]


def moves_of(task, belief, choice):
    """The moves of a pair, each once."""
    after = next_beliefs(task, belief, choice)
    found = {}
    for position in belief:
        for place in reach(task, [position], choice):
            if is_end(task, place):
                found[(position, None)] = True
            for event, ahead in open_steps(task, place, choice):
                if ahead is not None and event in after:
                    found[(position, (ahead, after[event]))] = True
    return list(found)


def with_way(chart, plan):
    """A dict that has as keys the nodes of a plan that have a way to an end, and None for the end itself."""
    before = {}
    for belief in plan:
        for choice in plan[belief]:
            for position, node in chart.moves(belief, choice):
                before.setdefault(node, []).append((position, belief))
    known = {None: True}
    waiting = [None]
    while waiting:
        node = waiting.pop()
        for origin in before.get(node, []):
            if origin not in known:
                known[origin] = True
                waiting.append(origin)
    return known


def goes_on(task, position, choice):
    """True if invisible events that are not in the choice, perhaps none, lead from a position to a good one.

    That is one that is final, or at which the plant can do a visible event that is not in the choice.
    """
    visible = task.visible
    for place in reach(task, [position], choice):
        if is_end(task, place) or any([event in visible for event, _ in open_steps(task, place, choice)]):
            return True
    return False


def is_bad_place(task, position, choice):
    """True if a position of the spread shows that a choice is not fit for a finishing gatekeeper."""
    return not keeps_rule(task, [position], choice) or not goes_on(task, position, choice)


def bad_place(task, belief, choice):
    """The first position of the spread that shows that a choice is not fit, None if it is fit."""
    for position in reach(task, belief, choice):
        if is_bad_place(task, position, choice):
            return position
    return None


def is_fit(task, belief, choice):
    """True if a choice is safe at a belief and lets the plant go on from each position of the spread."""
    return bad_place(task, belief, choice) is None


def unfit_pairs(task, plan):
    """The losses of the choices that a plan of all fit choices does not have."""
    return [(belief, choice, bad_place(task, belief, choice)) for belief in plan for choice in choices_of(task)
            if choice not in plan[belief]]


def led_astray(plan):
    """The losses of the pairs of a plan that lead to a belief that is lost; one event for each pair."""
    found = []
    for belief in plan:
        for choice in plan[belief]:
            steps = plan[belief][choice]
            events = [event for event in steps if len(plan[steps[event]]) == 0]
            if len(events) > 0:
                found.append((belief, choice, events[0]))
    return found


def without_way(chart, plan):
    """The losses of the beliefs of a plan that have a position without a way to an end; the first one for each."""
    known = with_way(chart, plan)
    found = []
    for belief in plan:
        stuck = [position for position in belief if (position, belief) not in known]
        if len(plan[belief]) > 0 and len(stuck) > 0:
            found.append((belief, None, stuck[0]))
    return found


def sifted(task):
    """The plan that the book lists, and the losses of all other pairs of the beliefs that fit choices bring about."""
    plan = plan_of(task, is_fit)
    told = unfit_pairs(task, plan)
    chart = Chart(task)
    fresh = led_astray(plan) or without_way(chart, plan)
    while len(fresh) > 0:
        told.extend(fresh)
        gone = {(belief, choice): True for belief, choice, _ in fresh}
        plan = {belief: {choice: plan[belief][choice] for choice in plan[belief]
                         if (belief, choice) not in gone and (belief, None) not in gone} for belief in plan}
        fresh = led_astray(plan) or without_way(chart, plan)
    return plan, told


def book(task):
    """The list of tuples (belief, choices) of the choices of finishing gatekeepers; empty if there is none."""
    plan, _ = sifted(task)
    return listed(plan)


def judge_book(task, told):
    """True if a list of tuples (belief, choices) shows that there is a finishing gatekeeper, otherwise False."""
    plan = told_plan(task, told)
    if plan is None or not is_closed(task, plan, is_fit):
        return False
    return len(without_way(Chart(task), plan)) == 0


def can_finish(task):
    """True if there is a finishing gatekeeper, otherwise False."""
    return len(book(task)) > 0


def losses(task):
    """A list of tuples (belief, choice, reason) that shows that no gatekeeper is finishing, None if there is one."""
    plan, told = sifted(task)
    if len(plan[START]) > 0:
        return None
    return [(list(belief), None if choice is None else list(choice), reason) for belief, choice, reason in told]


def is_lost(choices, lost, belief):
    """True if all pairs of a belief are lost. A belief is lost just then; lost pairs are the keys of a dict."""
    return all([(belief, choice) in lost for choice in choices])


def open_plan(chart, choices, lost, belief):
    """A dict from the beliefs that come about from a belief by pairs that are not lost to the choices of these."""
    plan = {}
    waiting = [belief]
    while waiting:
        here = waiting.pop()
        if here not in plan:
            plan[here] = [choice for choice in choices if (here, choice) not in lost]
            for choice in plan[here]:
                waiting.extend([node[1] for _, node in chart.moves(here, choice) if node is not None])
    return plan


def loses_pair(task, choices, lost, belief, choice, reason):
    """True if a reason is right for a pair: an event that leads to a lost belief, or a position of the spread."""
    if isinstance(reason, str):
        return is_lost(choices, lost, next_beliefs(task, belief, choice).get(reason, ()))
    return reason in reach(task, belief, choice) and is_bad_place(task, reason, choice)


def loses_belief(chart, choices, lost, belief, reason):
    """True if a reason is right for a belief: a position of it that has no way to an end by the pairs that are left."""
    if reason not in belief:
        return False
    return (reason, belief) not in with_way(chart, open_plan(chart, choices, lost, belief))


def judge_losses(task, told):
    """True if a list of tuples (belief, choice, reason) shows that no gatekeeper is finishing, otherwise False."""
    chart, choices = Chart(task), choices_of(task)
    lost = {}
    for belief, choice, reason in told:
        if not is_belief(task, belief) or choice is not None and not is_choice(task, choice):
            return False
        here = tuple(belief)
        if choice is None:
            right = loses_belief(chart, choices, lost, here, reason)
            fresh = choices
        else:
            right = loses_pair(task, choices, lost, here, choice, reason)
            fresh = [tuple(choice)]
        if not right:
            return False
        for other in fresh:
            lost[(here, other)] = True
    return is_lost(choices, lost, START)


def greatest_seen_keeper(task):
    """A keeper that passes just the runs that the greatest finishing gatekeeper passes; None if there is none.

    Raises NotVisible(event), with the least blockable event that is not visible.
    """
    visible = task.visible
    for event in task.blockable:
        if event not in visible:
            raise NotVisible(event)
    plan, _ = sifted(task)
    # If all blockable events are visible, what all choices of a belief have in common is a choice of it, too:
    # the first one, which blocks least.
    return first_choice_keeper(task, plan)


def greatest_seen(task):
    """The machine of the runs that the greatest finishing gatekeeper passes; None if there is none.

    Raises NotVisible(event), with the least blockable event that is not visible.
    """
    keeper = greatest_seen_keeper(task)
    if keeper is None:
        return None
    return passed(task, keeper)

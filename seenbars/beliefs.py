"""Beliefs: where the plant and the rule may be, as far as a gatekeeper can tell, and what it may choose then.

Inside, a belief is a tuple of positions and a choice a tuple of events. A plan is a dict from beliefs to dicts from
choices to dicts from visible events to the beliefs after them; a belief that it leaves no choice is lost.
"""

from seenbars.errors import InvalidBelief, InvalidChoice, InvalidEvent
from seenbars.keepers import Keeper

START = ((0, 0),)


def is_belief(task, told):
    """True if a list of tuples is a belief of positions of the task."""
    positions = task.positions
    return len(told) > 0 and told == sorted(set(told)) and all([position in positions for position in told])


def is_choice(task, told):
    """True if a list of strings is a choice of the task."""
    blockable = task.blockable
    return told == sorted(set(told)) and all([event in blockable for event in told])


def check_pair(task, belief, choice):
    """Raises InvalidBelief(belief), then InvalidChoice(choice)."""
    if not is_belief(task, belief):
        raise InvalidBelief(list(belief))
    if not is_choice(task, choice):
        raise InvalidChoice(list(choice))


def subsets(events):
    """All sets of events of an ascending list, as ascending tuples, by their number of events and then in order."""
    found = [()]
    for event in events:
        found = found + [(*chosen, event) for chosen in found]
    return [chosen for _, chosen in sorted([(len(chosen), chosen) for chosen in found])]


def choices_of(task):
    """All choices of a task, in order."""
    return subsets(task.blockable)


def open_steps(task, position, choice):
    """The steps at a position whose events are not in the choice."""
    return [(event, ahead) for event, ahead in task.steps_at(position) if event not in choice]


def reach(task, places, choice):
    """The ascending list of the positions that invisible events that are not in the choice, perhaps none, reach."""
    visible = task.visible
    known = {position: True for position in places}
    waiting = list(known)
    while waiting:
        position = waiting.pop()
        for event, ahead in open_steps(task, position, choice):
            if ahead is not None and event not in visible and ahead not in known:
                known[ahead] = True
                waiting.append(ahead)
    return sorted(known)


def keeps_rule(task, places, choice):
    """True if no event that can be done at some positions, and that is not in the choice, breaks the rule."""
    return not any([ahead is None for position in places for _, ahead in open_steps(task, position, choice)])


def is_end(task, position):
    """True if a position is final."""
    return position[0] in task.plant.finals


def is_steady(task, belief, choice):
    """True if a choice is steady at a belief."""
    places = reach(task, belief, choice)
    if not keeps_rule(task, places, choice):
        return False
    return all([len(open_steps(task, position, choice)) > 0 or is_end(task, position) for position in places])


def next_beliefs(task, belief, choice):
    """A dict from each visible event that can happen, and that is not in the choice, to the belief after it."""
    visible = task.visible
    found = {}
    for position in reach(task, belief, choice):
        for event, ahead in open_steps(task, position, choice):
            if ahead is not None and event in visible:
                found.setdefault(event, []).append(ahead)
    return {event: tuple(sorted(set(found[event]))) for event in sorted(found)}


def spread(task, belief, choice):
    """The ascending list of the positions of the spread of a belief under a choice."""
    check_pair(task, belief, choice)
    return reach(task, belief, choice)


def is_safe_choice(task, belief, choice):
    """True if a choice is safe at a belief, otherwise False."""
    check_pair(task, belief, choice)
    return keeps_rule(task, reach(task, belief, choice), choice)


def is_steady_choice(task, belief, choice):
    """True if a choice is steady at a belief, otherwise False."""
    check_pair(task, belief, choice)
    return is_steady(task, belief, choice)


def belief_after(task, belief, choice, event):
    """The belief after a visible event; an empty list if the event cannot happen."""
    check_pair(task, belief, choice)
    if event not in task.visible or event in choice:
        raise InvalidEvent(event)
    return list(next_beliefs(task, belief, choice).get(event, ()))


def plan_of(task, is_good):
    """The plan of all good choices of the beliefs that come about from the start by good choices."""
    choices = choices_of(task)
    plan = {}
    waiting = [START]
    while waiting:
        belief = waiting.pop()
        if belief not in plan:
            good = [choice for choice in choices if is_good(task, belief, choice)]
            plan[belief] = {choice: next_beliefs(task, belief, choice) for choice in good}
            for choice in good:
                waiting.extend(list(plan[belief][choice].values()))
    return plan


def leads_to(steps, beliefs):
    """True if one of the steps of a choice leads to one of the beliefs that a dict has as keys."""
    return any([steps[event] in beliefs for event in steps])


def ranked(plan):
    """A dict from the beliefs that lose all choices to ranks: each choice leads to a belief with a lower rank."""
    ranking = {}
    rank = 0
    fresh = [belief for belief in plan if len(plan[belief]) == 0]
    while len(fresh) > 0:
        for belief in fresh:
            ranking[belief] = rank
        rank += 1
        fresh = [belief for belief in plan if belief not in ranking
                 and all([leads_to(plan[belief][choice], ranking) for choice in plan[belief]])]
    return ranking


def listed(plan):
    """The list of tuples (belief, choices) that a plan has from the start on, as breadth-first search finds them."""
    if len(plan[START]) == 0:
        return []
    order = [START]
    known = {START: True}
    at = 0
    while at < len(order):
        ways = plan[order[at]]
        for choice in ways:
            for event in ways[choice]:
                ahead = ways[choice][event]
                if ahead not in known:
                    known[ahead] = True
                    order.append(ahead)
        at += 1
    return [(list(belief), [list(listed_choice) for listed_choice in plan[belief]]) for belief in order]


def told_plan(task, told):
    """The plan that a list of tuples (belief, choices) tells, None if it tells none.

    It tells none if it lacks the start belief, if some belief or choice is none or stands twice, or if a belief has no
    choice.
    """
    plan = {}
    for belief, choices in told:
        if not is_belief(task, belief) or tuple(belief) in plan or len(choices) == 0:
            return None
        steps = {}
        for choice in choices:
            if not is_choice(task, choice) or tuple(choice) in steps:
                return None
            steps[tuple(choice)] = next_beliefs(task, belief, choice)
        plan[tuple(belief)] = steps
    return plan if START in plan else None


def is_closed(task, plan, is_good):
    """True if each choice of a plan is good and leads to beliefs of the plan only."""
    for belief in plan:
        for choice in plan[belief]:
            if not is_good(task, belief, choice):
                return False
            steps = plan[belief][choice]
            if any([steps[event] not in plan for event in steps]):
                return False
    return True


def steady_plan(task):
    """The plan that the menu lists."""
    plan = plan_of(task, is_steady)
    ranking = ranked(plan)
    return {belief: {choice: plan[belief][choice] for choice in plan[belief]
                     if not leads_to(plan[belief][choice], ranking)} for belief in plan}


def menu(task):
    """The list of tuples (belief, choices) of all choices that keep a gatekeeper steady; empty if there is none."""
    return listed(steady_plan(task))


def judge_menu(task, told):
    """True if a list of tuples (belief, choices) shows that there is a steady gatekeeper, otherwise False."""
    plan = told_plan(task, told)
    return plan is not None and is_closed(task, plan, is_steady)


def ranks(task):
    """A list of tuples (belief, rank) that shows that there is no steady gatekeeper, None if there is one."""
    ranking = ranked(plan_of(task, is_steady))
    if START not in ranking:
        return None
    return [(list(belief), ranking[belief]) for belief in ranking]


def judge_ranks(task, told):
    """True if a list of tuples (belief, rank) shows that there is no steady gatekeeper, otherwise False."""
    ranking = {}
    for belief, rank in told:
        if not is_belief(task, belief) or tuple(belief) in ranking or rank < 0:
            return False
        ranking[tuple(belief)] = rank
    choices = choices_of(task)
    for belief in ranking:
        lower = {other: True for other in ranking if ranking[other] < ranking[belief]}
        for choice in choices:
            if is_steady(task, belief, choice) and not leads_to(next_beliefs(task, belief, choice), lower):
                return False
    return START in ranking


def first_choice(plan, belief):
    """The first choice that a plan has for a belief."""
    return list(plan[belief])[0]


def first_choice_keeper(task, plan):
    """The keeper that takes the first choice that a plan lists for each belief; None if the start is lost."""
    beliefs = [tuple(belief) for belief, _ in listed(plan)]
    if len(beliefs) == 0:
        return None
    place = {belief: room for room, belief in enumerate(beliefs)}
    rooms = []
    for belief in beliefs:
        choice = first_choice(plan, belief)
        steps = plan[belief][choice]
        rooms.append((list(choice), {event: place[steps[event]] for event in steps}))
    return Keeper(rooms)


def steady_keeper(task):
    """A steady keeper, None if there is none."""
    return first_choice_keeper(task, steady_plan(task))

"""Plain searches over small tasks and teams, written without the package, to compare its answers with.

They follow the words of the document: they go through all runs up to a length, all sets of positions, all pairs of a
belief and a choice, or all gatekeepers, and are far too slow for anything but small tasks.
"""

import itertools

from tests.plain import (events_in, is_complete, is_run, least_by_rounds, lists_up_to, some_of, some_spec, view_in)

GOALS = ["exact", "safe", "steady", "finishing"]


def dicts(spec):
    """The least machine of a spec, with dicts for its states."""
    states, finals = least_by_rounds(spec)
    return [dict(steps) for steps in states], finals


def subsets(things):
    """All subsets of ascending things, by size and then in order, as tuples."""
    for size in range(len(things) + 1):
        yield from itertools.combinations(things, size)


class PlainTask:
    """A task of specs, with its positions (points 6, 7 and 9)."""

    def __init__(self, plant, rule, blockable, visible):
        self.plant, self.rule = dicts(plant), dicts(rule)
        self.events = events_in(self.plant)
        self.blockable, self.visible = sorted(set(blockable)), sorted(set(visible))
        found = [(0, 0)]
        for position in found:
            found.extend(ahead for ahead in self.steps(position).values() if ahead is not None and ahead not in found)
        self.positions = sorted(set(found))
        self.choices = list(subsets(self.blockable))

    def __str__(self):
        return str((self.plant, self.rule, self.blockable, self.visible))

    def steps(self, position):
        """For each event that the plant can do the next position, None if the event breaks the rule."""
        ways = self.rule[0][position[1]]
        return {event: (to, ways[event]) if event in ways else None
                for event, to in sorted(self.plant[0][position[0]].items())}

    def is_final(self, position):
        return position[0] in self.plant[1]

    def is_allowed(self, run):
        return is_run(self.plant, run) and is_run(self.rule, run)

    def beliefs(self):
        """All beliefs, as tuples."""
        return [belief for belief in subsets(self.positions) if belief]

    def is_belief(self, told):
        return len(told) > 0 and list(told) == sorted(set(told)) and all(place in self.positions for place in told)

    def is_choice(self, told):
        return list(told) == sorted(set(told)) and all(event in self.blockable for event in told)

    def spread(self, belief, choice):
        found = list(belief)
        for position in found:
            for event, ahead in self.steps(position).items():
                hidden = event not in self.visible and event not in choice
                if hidden and ahead is not None and ahead not in found:
                    found.append(ahead)
        return sorted(found)

    def is_safe(self, belief, choice):
        return all(ahead is not None for position in self.spread(belief, choice)
                   for event, ahead in self.steps(position).items() if event not in choice)

    def is_steady(self, belief, choice):
        return self.is_safe(belief, choice) and all(
            self.is_final(position) or set(self.steps(position)) - set(choice)
            for position in self.spread(belief, choice))

    def after(self, belief, choice, event):
        found = {self.steps(position).get(event) for position in self.spread(belief, choice)}
        return tuple(sorted(found - {None}))

    def nexts(self, belief, choice):
        """All beliefs after visible events that are not in the choice and can happen, by event."""
        told = {event: self.after(belief, choice, event) for event in self.visible if event not in choice}
        return {event: ahead for event, ahead in told.items() if ahead}

    def goes_on(self, position, choice):
        """What point (b) of `book` asks of a position of the spread."""
        return any(self.is_final(place) or any(event in self.visible and event not in choice
                                               for event in self.steps(place))
                   for place in self.spread([position], choice))

    def has_b(self, belief, choice):
        return all(self.goes_on(position, choice) for position in self.spread(belief, choice))

    def ways(self, pairs):
        """The tuples (position, belief) with a way to an end by the choices of a set of pairs."""
        found = set()
        size = -1
        while len(found) > size:
            size = len(found)
            for belief, choice in pairs:
                for position in belief:
                    for place in self.spread([position], choice):
                        if self.is_final(place):
                            found.add((position, belief))
                        for event, ahead in self.steps(place).items():
                            if event in self.visible and event not in choice and ahead is not None:
                                if (ahead, self.after(belief, choice, event)) in found:
                                    found.add((position, belief))
        return found

    def hold_together(self, pairs, goal):
        """Whether a set of pairs has all the properties that `menu` or `book` asks of it."""
        beliefs = {belief for belief, _ in pairs}
        for belief, choice in pairs:
            if goal == "steady" and not self.is_steady(belief, choice):
                return False
            if goal == "finishing" and not (self.is_safe(belief, choice) and self.has_b(belief, choice)):
                return False
            if any(ahead not in beliefs for ahead in self.nexts(belief, choice).values()):
                return False
        if goal == "finishing":
            found = self.ways(pairs)
            return all((position, belief) in found for belief in beliefs for position in belief)
        return True

    def greatest_pairs(self, goal):
        """The greatest set of pairs: from all pairs of all beliefs, those that cannot stay are taken out."""
        pairs = set(itertools.product(self.beliefs(), self.choices))
        good = self.is_steady if goal == "steady" else (lambda *pair: self.is_safe(*pair) and self.has_b(*pair))
        pairs = {pair for pair in pairs if good(*pair)}
        while True:
            beliefs = {belief for belief, _ in pairs}
            fine = {pair for pair in pairs if all(ahead in beliefs for ahead in self.nexts(*pair).values())}
            if goal == "finishing" and fine == pairs:
                found = self.ways(pairs)
                fine = {(belief, choice) for belief, choice in pairs
                        if all((position, belief) in found for position in belief)}
            if fine == pairs:
                return pairs
            pairs = fine

    def greatest_pairs_of_all_sets(self, goal):
        """The same by looking at all sets of pairs; the union of two good sets is good, so it is the union of all."""
        best = set()
        for pairs in subsets([pair for pair in itertools.product(self.beliefs(), self.choices)
                              if self.is_safe(*pair)]):
            if not set(pairs) <= best and self.hold_together(pairs, goal):
                best |= set(pairs)
        return best

    def listed(self, pairs):
        """What `menu` and `book` return for a set of pairs."""
        choices = {belief: [choice for choice in self.choices if (belief, choice) in pairs]
                   for belief in self.beliefs()}
        order = [((0, 0),)] if choices[((0, 0),)] else []
        for belief in order:
            for choice in choices[belief]:
                for event in self.visible:
                    ahead = self.nexts(belief, choice).get(event)
                    if ahead is not None and ahead not in order:
                        order.append(ahead)
        return [(list(belief), [list(choice) for choice in choices[belief]]) for belief in order]

    def judge_pairs(self, told, goal):
        """`judge_menu` and `judge_book`."""
        beliefs = [tuple(belief) for belief, _ in told]
        if ((0, 0),) not in beliefs or len(set(beliefs)) < len(beliefs):
            return False
        pairs = []
        for belief, choices in told:
            if not self.is_belief(belief) or not choices or not all(self.is_choice(choice) for choice in choices):
                return False
            if any(choices.count(choice) > 1 for choice in choices):
                return False
            pairs.extend((tuple(belief), tuple(choice)) for choice in choices)
        return self.hold_together(pairs, goal)

    def judge_ranks(self, told):
        beliefs = [belief for belief, _ in told]
        if [(0, 0)] not in beliefs or any(beliefs.count(belief) > 1 for belief in beliefs):
            return False
        for belief, rank in told:
            if not self.is_belief(belief) or rank < 0:
                return False
            for choice in self.choices:
                lower = [list(ahead) for ahead in self.nexts(belief, choice).values()]
                if self.is_steady(belief, choice) and not any(ahead in lower and less < rank for ahead, less in told):
                    return False
        return True

    def pair_is_lost(self, told, belief, choice):
        """Whether the entries that are told lose a pair of two tuples."""
        return any(tuple(told_belief) == belief and (told_choice is None or tuple(told_choice) == choice)
                   for told_belief, told_choice, _ in told)

    def belief_is_lost(self, told, belief):
        return all(self.pair_is_lost(told, belief, choice) for choice in self.choices)

    def is_right(self, told, belief, choice, reason):
        """Whether the reason of an entry after those that are told is right."""
        if choice is None:
            left = [pair for pair in itertools.product(self.beliefs(), self.choices)
                    if not self.pair_is_lost(told, *pair)]
            return reason in belief and (reason, tuple(belief)) not in self.ways(left)
        if isinstance(reason, str):
            ahead = self.nexts(belief, choice).get(reason)
            return ahead is not None and self.belief_is_lost(told, ahead)
        if reason not in self.spread(belief, choice):
            return False
        breaks = any(ahead is None and event not in choice for event, ahead in self.steps(reason).items())
        return breaks or not self.goes_on(reason, choice)

    def judge_losses(self, told):
        for at, (belief, choice, reason) in enumerate(told):
            if not self.is_belief(belief) or choice is not None and not self.is_choice(choice):
                return False
            if not self.is_right(told[:at], belief, choice, reason):
                return False
        return self.belief_is_lost(told, ((0, 0),))

    def stays(self, told):
        """Whether positions have the two properties of the kept ones (`kept`)."""
        for position in told:
            for event, ahead in self.steps(position).items():
                if event not in self.blockable and ahead not in told:
                    return False
            if not any(self.is_final(place) for place in self.within(position, told)):
                return False
        return True

    def within(self, position, told):
        """The positions that are reached from a position by events that lead to some positions only."""
        found = [position]
        for place in found:
            found.extend(ahead for ahead in self.steps(place).values() if ahead in told and ahead not in found)
        return found

    def kept(self):
        """The greatest set of positions that stays; the union of two that stay stays."""
        return sorted({position for told in subsets(self.positions) if self.stays(told) for position in told})

    def judge_removal(self, told):
        done = []
        for position, reason in told:
            if position not in self.positions or position in done:
                return False
            if reason is None:
                left = [place for place in self.positions if place not in done]
                if any(self.is_final(place) for place in self.within(position, left)):
                    return False
            else:
                steps = self.steps(position)
                if reason in self.blockable or reason not in steps or steps[reason] not in done + [None]:
                    return False
            done.append(position)
        return (0, 0) in done

    def can_stay_steady(self, runs, length):
        """Whether a gatekeeper that has just seen the last event of some runs can go on steadily.

        Only runs up to a length count. No belief is used: the runs with the view that was seen are gone through.
        """
        return any(self.stays_with(choice, runs, length) for choice in self.choices)

    def stays_with(self, choice, runs, length):
        alike = list(runs)
        ahead = {event: [] for event in self.visible}
        for run in alike:
            if not is_run(self.rule, run):
                return False
            if len(run) < length:
                longer = [run + (event,) for event in self.events
                          if event not in choice and is_run(self.plant, run + (event,))]
                if not longer and not is_complete(self.plant, run):
                    return False
                alike.extend(other for other in longer if other[-1] not in self.visible)
                for other in longer:
                    if other[-1] in self.visible:
                        ahead[other[-1]].append(other)
        return all(self.can_stay_steady(others, length) for others in ahead.values() if others)


def some_plain_task(numbers, events=("a", "b"), sizes=(2, 2), missing=4, ratio=2):
    """A small task of specs; the rule lacks fewer steps than the plant."""
    plant = some_spec(numbers, events, sizes[0], missing)
    rule = some_spec(numbers, events, sizes[1], missing * ratio)
    known = events_in(dicts(plant))
    return PlainTask(plant, rule, some_of(numbers, known), some_of(numbers, known))


def all_rooms(blockable, visible, size):
    """All keepers with so many rooms, as lists of rooms."""
    blocked = [list(choice) for choice in subsets(blockable)]
    steps = [dict(zip(visible, row)) for row in itertools.product(range(size), repeat=len(visible))]
    yield from ([(list(names), dict(ways)) for names, ways in rooms]
                for rooms in itertools.product(list(itertools.product(blocked, steps)), repeat=size))


class PlainTeam:
    """A plant, a rule and members, as specs; all allowed runs up to a length are gone through."""

    def __init__(self, plant, rule, members, length):
        self.plant, self.rule, self.members, self.length = plant, rule, members, length
        self.events = events_in(dicts(plant))
        self.allowed = [run for run in lists_up_to(self.events, length) if is_run(plant, run) and is_run(rule, run)]
        self.known = {run: True for run in self.allowed}
        self.alike = []
        for _, visible in members:
            found = {}
            for run in self.allowed:
                found.setdefault(tuple(view_in(visible, run)), []).append(run)
            self.alike.append(found)

    def first_alike(self, number, run, event):
        """The first allowed run that looks like a run for a member and goes on with an event, None if there is none."""
        blockable, visible = self.members[number]
        if event not in blockable:
            return None
        for other in self.alike[number][tuple(view_in(visible, run))]:
            longer = other + (event,)
            if is_run(self.plant, longer) and is_run(self.rule, longer):
                return list(other)
        return None

    def find_fault(self, length):
        """The first fault whose run has at most so many events."""
        for run in self.allowed:
            for event in self.events:
                longer = run + (event,)
                if len(run) <= length and is_run(self.plant, longer) and not is_run(self.rule, longer):
                    alike = [self.first_alike(number, run, event) for number in range(len(self.members))]
                    if all(event not in blockable or found is not None
                           for (blockable, _), found in zip(self.members, alike)):
                        return (list(run), event, alike)
        return None

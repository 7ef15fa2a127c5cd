"""Plain walks over small machines and keepers, written without the package, to compare its answers with.

A spec of a machine is a tuple (states, finals), as `Machine` takes it; a spec of a keeper is the list of its rooms.
Everything here goes through all lists of events up to a length, in the order of runs.
"""

import itertools

BAD_NAMES = ["", "A", "a1", "a b", " ", "a_b", "abcdefghi", "a-", "{", "`", "z~"]


def raised(case, error, call, *arguments, **named):
    """The value of the error of just this class that a call must raise."""
    with case.assertRaises(error) as caught:
        call(*arguments, **named)
    case.assertIs(type(caught.exception), error)
    return caught.exception.value


class Numbers:
    """Always the same numbers, so that each run of the tests looks at the same cases."""

    def __init__(self, seed):
        self.now = seed

    def below(self, size):
        self.now = (self.now * 6364136223846793005 + 1442695040888963407) % 2 ** 64
        return (self.now >> 33) % size


def lists_up_to(events, length):
    """All lists of events up to a length, as tuples, in the order of runs."""
    for size in range(length + 1):
        yield from itertools.product(sorted(events), repeat=size)


def state_of(spec, run, state=0):
    """The given state after a list of events, None if they cannot be done."""
    for event in run:
        if event not in spec[0][state]:
            return None
        state = spec[0][state][event]
    return state


def is_run(spec, run):
    return state_of(spec, run) is not None


def is_complete(spec, run):
    return state_of(spec, run) in spec[1]


def events_in(spec):
    """All events of the steps of a spec, reached or not."""
    return sorted({event for steps in spec[0] for event in steps})


def future(spec, start, events, length):
    """What can be told of the runs from a state on: for each list of events None, or whether it is complete."""
    told = []
    for run in lists_up_to(events, length):
        state = state_of(spec, run, start)
        told.append(None if state is None else state in spec[1])
    return tuple(told)


def least_states(spec):
    """The states and finals of the least machine, found by comparing all futures."""
    events = events_in(spec)
    size = len(spec[0])
    futures = [future(spec, state, events, size) for state in range(size)]
    first = {}
    for run in lists_up_to(events, size):
        state = state_of(spec, run)
        if state is not None:
            first.setdefault(futures[state], (len(first), state))
    states = []
    for number, state in sorted(first.values()):
        steps = spec[0][state]
        states.append([(event, first[futures[steps[event]]][0]) for event in sorted(steps)])
    finals = [number for number, state in sorted(first.values()) if state in spec[1]]
    return states, finals


def least_by_rounds(spec):
    """The same for larger machines: states are told apart in rounds, by one event more in each round."""
    states, marks = least_rows(spec[0], [state in spec[1] for state in range(len(spec[0]))])
    return states, [state for state, is_end in enumerate(marks) if is_end]


def least_rows(rows, marks):
    """The rows, as lists of steps, and the marks of the least graph, for rows that are dicts."""
    order = [0]
    for node in order:
        for event in sorted(rows[node]):
            if rows[node][event] not in order:
                order.append(rows[node][event])
    kinds = {node: marks[node] for node in order}
    many = 0
    while len(set(kinds.values())) > many:
        many = len(set(kinds.values()))
        number = {}
        told = {node: (marks[node], kinds[node], tuple((event, kinds[to]) for event, to in sorted(rows[node].items())))
                for node in order}
        kinds = {node: number.setdefault(told[node], len(number)) for node in order}
    heads = {}
    for node in order:
        heads.setdefault(kinds[node], node)
    least = [[(event, kinds[to]) for event, to in sorted(rows[node].items())] for node in heads.values()]
    return least, [marks[node] for node in heads.values()]


def least_rooms_by_rounds(rooms):
    """The least rooms of a keeper with any number of rooms, as `Keeper.rooms` gives them."""
    events = sorted({event for _, steps in rooms for event in steps})
    full = [{event: steps.get(event, room) for event in events} for room, (_, steps) in enumerate(rooms)]
    rows, marks = least_rows(full, [tuple(sorted(set(blocked))) for blocked, _ in rooms])
    return [(list(mark), [step for step in row if step[1] != room])
            for room, (mark, row) in enumerate(zip(marks, rows))]


def first_unlike_by_pairs(one, other):
    """The first run that tells two larger specs apart, found by a walk through all pairs of states."""
    if (0 in one[1]) != (0 in other[1]):
        return []
    queue = [((0, 0), ())]
    known = {(0, 0)}
    for (state, place), run in queue:
        for event in sorted({*one[0][state], *other[0][place]}):
            pair = (one[0][state].get(event), other[0][place].get(event))
            if None in pair or (pair[0] in one[1]) != (pair[1] in other[1]):
                return list(run) + [event]
            if pair not in known:
                known.add(pair)
                queue.append((pair, run + (event,)))
    return None


def small_specs(events, size):
    """All specs of machines with so many states over some events."""
    targets = [None] + list(range(size))
    steps = [{event: to for event, to in zip(events, row) if to is not None}
             for row in itertools.product(targets, repeat=len(events))]
    for states in itertools.product(steps, repeat=size):
        for many in range(size + 1):
            for finals in itertools.combinations(range(size), many):
                yield [dict(row) for row in states], list(finals)


def some_spec(numbers, events, size, missing=3):
    """A spec of a machine; about one step of so many is missing."""
    states = [{event: numbers.below(size) for event in events if numbers.below(missing) > 0} for _ in range(size)]
    return states, [state for state in range(size) if numbers.below(2) == 0]


def some_of(numbers, things):
    return [thing for thing in things if numbers.below(2) == 0]


def some_rooms(numbers, blockable, events, size):
    """A spec of a keeper."""
    return [(some_of(numbers, blockable), {event: numbers.below(size) for event in events if numbers.below(3) > 0})
            for _ in range(size)]


def room_of(rooms, view, room=0):
    """The given room after a list of seen events."""
    for event in view:
        room = rooms[room][1].get(event, room)
    return room


def blocked_at(rooms, view, room=0):
    return sorted(set(rooms[room_of(rooms, view, room)][0]))


def least_rooms(rooms, events):
    """The least rooms, found by comparing what is blocked after all lists of events."""
    size = len(rooms)
    futures = [tuple(tuple(blocked_at(rooms, view, room)) for view in lists_up_to(events, size))
               for room in range(size)]
    first = {}
    for view in lists_up_to(events, size):
        room = room_of(rooms, view)
        first.setdefault(futures[room], (len(first), room))
    found = []
    for number, room in sorted(first.values()):
        ahead = [(event, first[futures[rooms[room][1].get(event, room)]][0]) for event in sorted(events)]
        found.append((sorted(set(rooms[room][0])), [step for step in ahead if step[1] != number]))
    return found


def view_in(visible, events):
    return [event for event in events if event in visible]


class PlainWatch:
    """A plant, a rule, visible events and the rooms of a keeper, all given as specs."""

    def __init__(self, plant, rule, visible, rooms):
        self.plant = plant
        self.rule = rule
        self.visible = visible
        self.rooms = rooms
        self.known = {}

    def passes(self, run):
        """Point [8] word by word: no event of a run of the plant is blocked after the view of the events before it."""
        if run not in self.known:
            self.known[run] = is_run(self.plant, run) and not any(
                event in blocked_at(self.rooms, view_in(self.visible, run[:at])) for at, event in enumerate(run))
        return self.known[run]

    def ways_on(self, run):
        """The passed runs that are one event longer than a passed run."""
        return [run + (event,) for event in events_in(self.plant) if self.passes(run + (event,))]

    def can_complete(self, run, more):
        """Whether a passed run is the beginning of a complete passed run that has at most so many events more."""
        if is_complete(self.plant, run):
            return True
        return more > 0 and any(self.can_complete(longer, more - 1) for longer in self.ways_on(run))

    def is_fault(self, goal, run):
        """Whether a list of events is a run that shows that the keeper does not have the goal."""
        if not self.passes(run):
            return goal == "exact" and is_run(self.plant, run) and is_run(self.rule, run)
        if not is_run(self.rule, run):
            return True
        if goal == "steady":
            return not is_complete(self.plant, run) and self.ways_on(run) == []
        if goal == "finishing":
            return not self.can_complete(run, len(self.plant[0]) * len(self.rooms))
        return False

    def first_fault(self, goal, length):
        """The first fault with at most so many events, None if there is none."""
        for run in lists_up_to(events_in(self.plant), length):
            if self.is_fault(goal, run):
                return list(run)
        return None

"""Machines, their runs and their least states."""

from seenbars.errors import InvalidFinal, NotPossible
from seenbars.graphs import check_names, check_steps, events_of, first_apart, grouped, least_graph, paired, walk


class Machine:
    """A machine that makes runs of events. It holds its least states only."""

    def __init__(self, states, finals):
        for state, steps in enumerate(states):
            check_steps(state, steps, len(states))
        marks = [False] * len(states)
        for index in finals:
            if not 0 <= index < len(states):
                raise InvalidFinal(index)
            marks[index] = True
        rows, ends = least_graph(states, marks)
        self._rows = rows
        self._ends = ends

    @property
    def states(self):
        """The list that has for each least state the ascending list of tuples (event, next state)."""
        return [[(event, steps[event]) for event in steps] for steps in self._rows]

    @property
    def finals(self):
        """The ascending list of the final least states."""
        return [state for state, is_end in enumerate(self._ends) if is_end]

    @property
    def events(self):
        """The ascending list of the events of the least states."""
        return events_of(self._rows)

    def __len__(self):
        return len(self._rows)

    def __eq__(self, other):
        return isinstance(other, Machine) and self._rows == other._rows and self._ends == other._ends

    def __contains__(self, run):
        return self.has(run)

    def __and__(self, other):
        pairs, rows = paired(self._rows, other._rows)
        finals = [at for at, (here, there) in enumerate(pairs) if self._ends[here] and other._ends[there]]
        return Machine(rows, finals)

    def __or__(self, other):
        events = sorted(set(self.events + other.events))
        pairs, rows = paired(with_gone(self._rows, events), with_gone(other._rows, events))
        gone = (len(self), len(other))
        states = [{event: steps[event] for event in steps if pairs[steps[event]] != gone} for steps in rows]
        ends, other_ends = [*self._ends, False], [*other._ends, False]
        finals = [at for at, (here, there) in enumerate(pairs) if ends[here] or other_ends[there]]
        return Machine(states, finals)

    def has(self, run):
        """True if a list of strings is a run, otherwise False."""
        return len(walk(self._rows, run)) > len(run)

    def completes(self, run):
        """True if a list of strings is a complete run, otherwise False."""
        nodes = walk(self._rows, run)
        return len(nodes) > len(run) and self._ends[nodes[-1]]

    def state_after(self, run):
        """The least state after a run. Raises NotPossible(index) for the first event that cannot be done."""
        nodes = walk(self._rows, run)
        if len(nodes) <= len(run):
            raise NotPossible(len(nodes) - 1)
        return nodes[-1]

    def within(self, other):
        """True if each run is a run of the other machine, and each complete run is complete there."""
        waiting = [(0, 0)]
        known = {(0, 0): True}
        while waiting:
            here, there = waiting.pop()
            if self._ends[here] and not other._ends[there]:
                return False
            for event in self._rows[here]:
                if event not in other._rows[there]:
                    return False
                ahead = (self._rows[here][event], other._rows[there][event])
                if ahead not in known:
                    known[ahead] = True
                    waiting.append(ahead)
        return True


def with_gone(rows, events):
    """The rows with one more node, to which each of the events leads that a node cannot do."""
    return [{event: steps.get(event, len(rows)) for event in events} for steps in [*rows, {}]]


def first_unlike(one, other):
    """The first run that is a run of only one of two machines, or is complete in only one of them; None if equal."""
    gap = len(one)
    moved = [{event: steps[event] + gap for event in steps} for steps in other._rows]
    return first_apart(one._rows + moved, one._ends + other._ends, 0, gap)


def seen_machine(machine, events):
    """The machine of the views of the runs of a machine, if just the events of a list are visible."""
    check_names(events)
    seen = [event for event in machine.events if event in events]
    hidden = [event for event in machine.events if event not in events]
    groups, states = grouped(machine._rows, seen, hidden)
    finals = [at for at, nodes in enumerate(groups) if any([machine._ends[node] for node in nodes])]
    return Machine(states, finals)

"""Names, and graphs with at most one step for an event: what machines, tasks and keepers share.

The rows of a graph are a list that has for each node a dict from events to the next node. A graph begins in node 0.
The marks of a graph are a list that has a value for each node.
"""

from seenbars.errors import InvalidName, InvalidStep


def is_name(text):
    """True if a string has one to eight letters from a to z."""
    return 1 <= len(text) <= 8 and all(["a" <= letter <= "z" for letter in text])


def check_names(events):
    """Raises InvalidName(event) for the first event of a list that is not a name."""
    for event in events:
        if not is_name(event):
            raise InvalidName(event)


def check_steps(node, steps, size):
    """Raises the first error of the steps of a node, in a graph with so many nodes."""
    for event in sorted(steps):
        if not is_name(event):
            raise InvalidName(event)
        if not 0 <= steps[event] < size:
            raise InvalidStep((node, event))


def events_of(rows):
    """The ascending list of the events of a graph."""
    return sorted({event for steps in rows for event in steps})


def walk(rows, run):
    """The nodes that a list of events passes, as far as its events can be done, from node 0 on."""
    nodes = [0]
    for event in run:
        steps = rows[nodes[-1]]
        if event not in steps:
            return nodes
        nodes.append(steps[event])
    return nodes


def reached(rows):
    """The nodes that are reached, in the order in which they are first reached."""
    nodes = [0]
    known = {0: True}
    at = 0
    while at < len(nodes):
        steps = rows[nodes[at]]
        for event in sorted(steps):
            if steps[event] not in known:
                known[steps[event]] = True
                nodes.append(steps[event])
        at += 1
    return nodes


def steps_before(rows):
    """For each node the list of tuples (event, node before) of the steps that lead to it."""
    found = [[] for _ in rows]
    for node, steps in enumerate(rows):
        for event in steps:
            found[steps[event]].append((event, node))
    return found


def reaching(rows, targets):
    """The ascending list of the nodes from which steps, perhaps none, lead to one of the targets."""
    before = steps_before(rows)
    known = {node: True for node in targets}
    waiting = list(targets)
    while waiting:
        node = waiting.pop()
        for _, origin in before[node]:
            if origin not in known:
                known[origin] = True
                waiting.append(origin)
    return sorted(known)


def paired(rows, others):
    """The pairs of nodes that two graphs reach together, by events that both can do, and the rows of these pairs."""
    pairs = [(0, 0)]
    place = {(0, 0): 0}
    joined = []
    while len(joined) < len(pairs):
        node, other = pairs[len(joined)]
        steps = {}
        for event in rows[node]:
            if event in others[other]:
                ahead = (rows[node][event], others[other][event])
                if ahead not in place:
                    place[ahead] = len(pairs)
                    pairs.append(ahead)
                steps[event] = place[ahead]
        joined.append(steps)
    return pairs, joined


def joint_walk(graphs):
    """The tuples of nodes that graphs reach together, by events that all can do, in the order of the first ways there.

    With them, as `way_to` takes it, for each tuple the place of the one before it and the event between them.
    """
    places = [tuple([0 for _ in graphs])]
    known = {places[0]: True}
    came = [(0, "")]
    at = 0
    while at < len(places):
        heads = [rows[node] for rows, node in zip(graphs, places[at])]
        for event in sorted(heads[0]):
            if all([event in steps for steps in heads]):
                ahead = tuple([steps[event] for steps in heads])
                if ahead not in known:
                    known[ahead] = True
                    places.append(ahead)
                    came.append((at, event))
        at += 1
    return places, came


def hidden_reach(rows, nodes, hidden):
    """The ascending tuple of the nodes that hidden events, perhaps none, reach from some nodes."""
    known = {node: True for node in nodes}
    waiting = list(known)
    while waiting:
        steps = rows[waiting.pop()]
        for event in hidden:
            if event in steps and steps[event] not in known:
                known[steps[event]] = True
                waiting.append(steps[event])
    return tuple(sorted(known))


def grouped(rows, seen, hidden):
    """The groups of the nodes that are reached with the same seen events, and the rows of these groups."""
    groups = [hidden_reach(rows, [0], hidden)]
    place = {groups[0]: 0}
    states = []
    while len(states) < len(groups):
        group = groups[len(states)]
        steps = {}
        for event in seen:
            ahead = hidden_reach(rows, [rows[node][event] for node in group if event in rows[node]], hidden)
            if len(ahead) > 0:
                if ahead not in place:
                    place[ahead] = len(groups)
                    groups.append(ahead)
                steps[event] = place[ahead]
        states.append(steps)
    return groups, states


def first_kinds(rows, marks):
    """The classes of the nodes, numbered from 0, if only their own marks and events are compared."""
    keys = [(mark, tuple(sorted(steps))) for mark, steps in zip(marks, rows)]
    number = {}
    for key in keys:
        number.setdefault(key, len(number))
    return [number[key] for key in keys]


def origins_of(before, nodes):
    """A dict from each event that leads to one of the nodes to the list of the nodes from which it does."""
    found = {}
    for node in nodes:
        for event, origin in before[node]:
            found.setdefault(event, []).append(origin)
    return found


def alike(rows, marks):
    """The class of each node: nodes are in one class if the same events and marks follow from them for ever."""
    kinds = list(first_kinds(rows, marks))
    before = steps_before(rows)
    members = {kind: {} for kind in kinds}
    for node, kind in enumerate(kinds):
        members[kind][node] = True
    work = list(members)
    waits = {kind: True for kind in work}
    while work:
        chosen = work.pop()
        waits[chosen] = False
        origins = origins_of(before, list(members[chosen]))
        for event in origins:
            hit = {}
            for node in origins[event]:
                hit.setdefault(kinds[node], []).append(node)
            for kind in hit:
                if len(hit[kind]) == len(members[kind]):
                    continue
                fresh = len(members)
                members[fresh] = {}
                for node in hit[kind]:
                    members[kind].pop(node)
                    members[fresh][node] = True
                    kinds[node] = fresh
                # Looking at the smaller part is enough if the whole class needed no more looking at;
                # with the larger parts a graph of thousands of nodes would take too long.
                waits[fresh] = waits[kind] or len(members[fresh]) <= len(members[kind])
                if waits[fresh]:
                    work.append(fresh)
                else:
                    waits[kind] = True
                    work.append(kind)
    return kinds


def least_graph(rows, marks):
    """The rows and marks of the least graph that has the same events and marks after each list of events.

    Its nodes are numbered as they are first reached, and the events of its rows are ascending.
    """
    nodes = reached(rows)
    place = {node: at for at, node in enumerate(nodes)}
    near = [{event: place[rows[node][event]] for event in sorted(rows[node])} for node in nodes]
    near_marks = [marks[node] for node in nodes]
    kinds = alike(near, near_marks)
    # A class is first reached at its first node, so the order of the first nodes is that of the classes.
    number = {}
    heads = []
    for at, kind in enumerate(kinds):
        if kind not in number:
            number[kind] = len(heads)
            heads.append(at)
    least_rows = [{event: number[kinds[near[head][event]]] for event in near[head]} for head in heads]
    return least_rows, [near_marks[head] for head in heads]


def leader(leaders, node):
    """The node that stands for the group of a node."""
    while leaders[node] != node:
        node = leaders[node]
    return node


def way_to(came, at):
    """The events that lead to an entry of a search: `came` has for each entry the one before it and the event."""
    events = []
    while at > 0:
        at, event = came[at]
        events.append(event)
    return events[::-1]


def first_apart(rows, marks, one, other):
    """The first list of events that only one of two nodes can do, or that leads to unlike marks; None if none does."""
    if marks[one] != marks[other]:
        return []
    pairs = [(one, other)]
    came = [(0, "")]
    leaders = list(range(len(rows)))
    sizes = [1] * len(rows)
    at = 0
    while at < len(pairs):
        here, there = rows[pairs[at][0]], rows[pairs[at][1]]
        for event in sorted({**here, **there}):
            if event not in here or event not in there or marks[here[event]] != marks[there[event]]:
                return way_to(came, at) + [event]
            # A pair within a group needs no look: what tells its nodes apart tells a pair before it apart,
            # after an earlier list of events. So there are fewer pairs than nodes.
            large, small = leader(leaders, here[event]), leader(leaders, there[event])
            if large != small:
                if sizes[large] < sizes[small]:
                    large, small = small, large
                leaders[small] = large
                sizes[large] += sizes[small]
                pairs.append((here[event], there[event]))
                came.append((at, event))
        at += 1
    return None

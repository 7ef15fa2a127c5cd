"""A plain reader and a plain shower of texts, written without the package, to compare its answers with.

The reader takes texts by patterns and looks then whether what they say is least (tests/plain.py). It returns specs: a
tuple (states, finals) for a machine, a list of rooms for a keeper, a tuple (plant, rule, blockable, visible) for a
task; None for a text that nothing has.
"""

import re

from tests.plain import least_by_rounds, least_rooms_by_rounds

INDEX = "(?:0|[1-9][0-9]{0,2})"
NAME = "[a-z]{1,8}"
NAMES = f"(?:{NAME}(?: {NAME})*)?"
STEPS = f"(?: {NAME} {INDEX}(?:, {NAME} {INDEX})*)?"
STATE = re.compile(f"({INDEX})(!?):({STEPS})")
ROOM = re.compile(f"({INDEX}) \\[({NAMES})\\]:({STEPS})")
TASK = re.compile(f"plant ([^|]*) \\| rule ([^|]*) \\| blockable((?: {NAME})*) \\| visible((?: {NAME})*)")

# Texts that can be read, of each kind.
MACHINES = ["0:", "0!:", "0!: a 0", "0!: on 1, test 0 / 1: off 0", "0: a 1, b 2 / 1: / 2!: a 2",
            "0: plant 1, rule 0 / 1!: none 0, visible 1", "0!: a 1 / 1: a 2 / 2: a 0",
            " / ".join(f"{at}: a {at + 1}" for at in range(11)) + " / 11!: b 0, zzzzzzzz 10"]
KEEPERS = ["0 []:", "0 [a]:", "0 [a b]:", "0 [on]: off 1 / 1 []:", "0 [a b]: a 1, c 2 / 1 []: b 0 / 2 [b]:",
           "0 []: rule 1 / 1 [none plant visible]: plant 0, visible 2 / 2 []:",
           " / ".join(f"{at} []: a {at + 1}" for at in range(11)) + " / 11 [a zzzzzzzz]: b 0"]
TASKS = ["plant 0: | rule 0: | blockable | visible", "plant 0!: a 0 | rule 0!: b 0 | blockable a | visible a",
         "plant 0!: on 1, test 0 / 1: off 0 | rule 0: on 1 / 1: off 0 | blockable on | visible",
         "plant 0!: plant 1, rule 0 / 1: visible 0 | rule 0: none 0 | blockable | visible plant rule visible",
         "plant 0: none 1 / 1!: plant 0 | rule 0!: none 0, rule 0 | blockable none plant | visible none"]
GOOD = {"machine": MACHINES, "keeper": KEEPERS, "task": TASKS}


def ascends(names):
    return all(one < other for one, other in zip(names, names[1:]))


def rows_in(text, pattern):
    """For each row what the pattern finds and the list of its steps, None if some row is out of form."""
    found = []
    for at, part in enumerate(text.split(" / ")):
        match = pattern.fullmatch(part)
        if match is None or int(match[1]) != at:
            return None
        steps = [(event, int(to)) for event, to in re.findall(f" ({NAME}) ({INDEX})", match[3])]
        if not ascends([event for event, _ in steps]):
            return None
        found.append((match[2], steps))
    if any(to >= len(found) for _, steps in found for _, to in steps):
        return None
    return found


def plain_machine(text):
    rows = rows_in(text, STATE)
    if rows is None:
        return None
    states = [steps for _, steps in rows]
    spec = [dict(steps) for steps in states], [state for state, (mark, _) in enumerate(rows) if mark]
    return spec if least_by_rounds(spec) == (states, spec[1]) else None


def plain_keeper(text):
    rows = rows_in(text, ROOM)
    if rows is None or not all(ascends(names.split()) for names, _ in rows):
        return None
    listed = [(names.split(), steps) for names, steps in rows]
    rooms = [(blocked, dict(steps)) for blocked, steps in listed]
    return rooms if least_rooms_by_rounds(rooms) == listed else None


def plain_task(text):
    match = TASK.fullmatch(text)
    if match is None:
        return None
    plant, rule = plain_machine(match[1]), plain_machine(match[2])
    blockable, visible = match[3].split(), match[4].split()
    if plant is None or rule is None or not ascends(blockable) or not ascends(visible):
        return None
    known = {event for steps in plant[0] for event in steps}
    return (plant, rule, blockable, visible) if {*blockable, *visible} <= known else None


def steps_text(steps):
    """The text of a list of tuples (event, index), from the colon on."""
    text = ":"
    for at, (event, to) in enumerate(steps):
        text += ("," if at else "") + " " + event + " " + str(to)
    return text


def machine_text(spec):
    states, finals = least_by_rounds(spec)
    return " / ".join(str(state) + ("!" if state in finals else "") + steps_text(steps)
                      for state, steps in enumerate(states))


def keeper_text(rooms):
    return " / ".join(str(room) + " [" + " ".join(blocked) + "]" + steps_text(steps)
                      for room, (blocked, steps) in enumerate(least_rooms_by_rounds(rooms)))


def task_text(plant, rule, blockable, visible):
    return ("plant " + machine_text(plant) + " | rule " + machine_text(rule)
            + " | blockable" + "".join(" " + event for event in sorted(set(blockable)))
            + " | visible" + "".join(" " + event for event in sorted(set(visible))))

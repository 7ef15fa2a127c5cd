"""Plain guards, written without the package, to compare live guards with, and cases of both."""

from seenbars.errors import Blocked, InvalidChoice, NothingToUndo, NotPossible
from seenbars.guards import Guard, SteadyGuard
from seenbars.keepers import Keeper
from seenbars.machines import Machine
from seenbars.tasks import Task
from tests.plain import BAD_NAMES, Numbers, blocked_at, is_complete, is_run, some_rooms, state_of, view_in
from tests.searches import some_plain_task

STATES = [{"fill": 1}, {"run": 2, "leak": 3}, {"stop": 0}, {"run": 4, "drain": 0}, {"stop": 0}]
PLANT = Machine(STATES, [0])
RULE = Machine([{"fill": 1}, {"run": 2, "leak": 3}, {"stop": 0}, {"drain": 0}], [])
TASK = Task(PLANT, RULE, ["run"], ["fill", "run", "stop", "drain"])
START = [(0, 0)]


def told(guard):
    """All that a guard tells now."""
    found = {"run": guard.run, "view": guard.view, "state": guard.state, "blocked": guard.blocked, "able": guard.able(),
             "is_complete": guard.is_complete, "is_allowed": guard.is_allowed, "len": len(guard)}
    if isinstance(guard, SteadyGuard):
        found["belief"], found["choices"] = guard.belief, guard.choices
    return found


def outcome(call, *arguments):
    """What a call returns, or the class and the value of its error."""
    try:
        return call(*arguments)
    except Exception as error:
        return type(error), error.value


class PlainGuard:
    """A plant that is watched by a keeper, as specs: everything follows from the run."""

    def __init__(self, plain, rooms):
        self.plain, self.rooms, self.run = plain, rooms, ()

    def blocked(self):
        return blocked_at(self.rooms, view_in(self.plain.visible, self.run))

    def told(self):
        steps = self.plain.plant[0][state_of(self.plain.plant, self.run)]
        return {"run": list(self.run), "view": view_in(self.plain.visible, self.run), "len": len(self.run),
                "state": state_of(self.plain.plant, self.run), "blocked": self.blocked(),
                "able": [event for event in sorted(steps) if event not in self.blocked()],
                "is_complete": is_complete(self.plain.plant, self.run), "is_allowed": is_run(self.plain.rule, self.run)}

    def call(self, event):
        """What the call must do: the outcome of it."""
        if not is_run(self.plain.plant, self.run + (event,)):
            return NotPossible, event
        if event in self.blocked():
            return Blocked, event
        self.run += (event,)
        return self.blocked()

    def undo(self):
        if not self.run:
            return NothingToUndo, 0
        self.run = self.run[:-1]
        return None

    def attempt(self, events):
        before, found = self.run, []
        for event in events:
            answer = self.call(event)
            if isinstance(answer, tuple):
                self.run = before
                return answer
            found.append(answer)
        self.run = before
        return found


class PlainSteady(PlainGuard):
    """The same with choices by hand; the past has a run, a belief and a choice for each deed."""

    def __init__(self, plain, pairs):
        self.plain, self.pairs = plain, pairs
        self.past = [((), ((0, 0),), self.choices_at(((0, 0),))[0])]

    def choices_at(self, belief):
        return [choice for choice in self.plain.choices if (belief, choice) in self.pairs]

    @property
    def run(self):
        return self.past[-1][0]

    def blocked(self):
        return list(self.past[-1][2])

    def told(self):
        belief = self.past[-1][1]
        return {**PlainGuard.told(self), "belief": list(belief),
                "choices": [list(choice) for choice in self.choices_at(belief)]}

    def call(self, event):
        run, belief, choice = self.past[-1]
        if not is_run(self.plain.plant, run + (event,)):
            return NotPossible, event
        if event in choice:
            return Blocked, event
        if event in self.plain.visible:
            belief = self.plain.after(belief, choice, event)
            choice = self.choices_at(belief)[0]
        self.past.append((run + (event,), belief, choice))
        return list(choice)

    def undo(self):
        if len(self.past) == 1:
            return NothingToUndo, 0
        self.past.pop()
        return None

    def choose(self, choice):
        run, belief, _ = self.past[-1]
        free = not run or run[-1] in self.plain.visible
        if not free or choice not in [list(some) for some in self.choices_at(belief)]:
            return InvalidChoice, choice
        self.past.append((run, belief, tuple(choice)))
        return None


def live_cases(seed, count, events=("a", "b", "c"), sizes=(3, 2), missing=4):
    """Plain tasks with a keeper that may block anything blockable, as specs, with the guard and the plain guard."""
    numbers = Numbers(seed)
    for _ in range(count):
        plain = some_plain_task(numbers, events, sizes, missing)
        rooms = some_rooms(numbers, plain.blockable, list(events) + ["z"], 1 + numbers.below(3))
        task = Task(Machine(*plain.plant), Machine(*plain.rule), plain.blockable, plain.visible)
        yield numbers, task, rooms, Guard(task, Keeper(rooms)), PlainGuard(plain, rooms)


def steady_cases(seed, count, events=("a", "b", "c"), sizes=(3, 2), missing=5):
    """The same for tasks that have a steady gatekeeper."""
    numbers = Numbers(seed)
    while count > 0:
        plain = some_plain_task(numbers, events, sizes, missing, 3)
        task = Task(Machine(*plain.plant), Machine(*plain.rule), plain.blockable, plain.visible)
        pairs = plain.greatest_pairs("steady")
        if any(belief == ((0, 0),) for belief, _ in pairs):
            yield numbers, task, SteadyGuard(task), PlainSteady(plain, pairs)
            count -= 1


def some_event(numbers, plain, guard):
    """Mostly an event that can be done now, at times one that the plant can do though it may be blocked, or any."""
    strange = ["zz", "unknown"] + BAD_NAMES + list(plain.plain.events)
    possible = sorted(plain.plain.plant[0][state_of(plain.plain.plant, plain.run)])
    kind = numbers.below(8)
    events = strange if kind == 0 else possible if kind < 4 else guard.able()
    return (events or strange)[numbers.below(len(events or strange))]

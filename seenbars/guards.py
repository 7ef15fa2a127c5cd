"""Live guards: a plant that is watched event by event, and whose events can be taken back."""

from seenbars.beliefs import START, first_choice, ranks, steady_plan
from seenbars.errors import Blocked, InvalidChoice, NoGatekeeper, NothingToUndo, NotPossible
from seenbars.keepers import check_blocks


class Guard:
    """A live plant with its keeper."""

    def __init__(self, task, keeper):
        check_blocks(task, keeper)
        self._task = task
        self._keeper = keeper
        self._run = []

    def __call__(self, event):
        check_event(self._task, self._run, self.blocked, event)
        self._run.append(event)
        return self.blocked

    @property
    def run(self):
        """The list of the events that were done and not taken back."""
        return list(self._run)

    @property
    def view(self):
        """The list of the visible ones among these events."""
        return self._task.view_of(self._run)

    @property
    def state(self):
        """The least state of the plant now."""
        return self._task.plant.state_after(self._run)

    @property
    def blocked(self):
        """The ascending list of the events that are blocked now."""
        return self._keeper.blocked_after(self._task.view_of(self._run))

    @property
    def is_complete(self):
        """True if the run is complete, otherwise False."""
        return self._task.plant.completes(self._run)

    @property
    def is_allowed(self):
        """True if the run is allowed, otherwise False."""
        return self._task.rule.has(self._run)

    def __len__(self):
        return len(self._run)

    def __eq__(self, other):
        if not isinstance(other, Guard):
            return False
        return self._task == other._task and self._keeper == other._keeper and self._run == other._run

    def able(self):
        """The ascending list of the events that the plant can do now and that are not blocked."""
        return open_events(self._task, self._run, self.blocked)

    def undo(self):
        """Takes back the last event. Raises NothingToUndo(0) if there is none."""
        if len(self._run) == 0:
            raise NothingToUndo(0)
        self._run.pop()

    def attempt(self, events):
        """The list of what the calls for the events of a list return; afterwards all is as before."""
        # Another guard does the events, so this one stays as it is, also if one of them cannot be done.
        double = Guard(self._task, self._keeper)
        double._run = list(self._run)
        return [double(event) for event in events]


class SteadyGuard:
    """A live plant whose blocks are chosen by hand so that they stay steady."""

    def __init__(self, task):
        plan = steady_plan(task)
        if len(plan[START]) == 0:
            raise NoGatekeeper(ranks(task))
        self._task = task
        self._plan = plan
        # A tuple (run, belief, choice in force) for the beginning and after each event and each `choose`.
        self._past = [((), START, first_choice(plan, START))]

    def __call__(self, event):
        run, belief, choice = self._past[-1]
        check_event(self._task, run, choice, event)
        if event in self._task.visible:
            belief = self._plan[belief][choice][event]
            choice = first_choice(self._plan, belief)
        self._past.append(((*run, event), belief, choice))
        return list(choice)

    @property
    def run(self):
        """The list of the events that were done and not taken back."""
        return list(self._past[-1][0])

    @property
    def view(self):
        """The list of the visible ones among these events."""
        return self._task.view_of(self._past[-1][0])

    @property
    def state(self):
        """The least state of the plant now."""
        return self._task.plant.state_after(self._past[-1][0])

    @property
    def blocked(self):
        """The ascending list of the events that are blocked now: the choice in force."""
        return list(self._past[-1][2])

    @property
    def is_complete(self):
        """True if the run is complete, otherwise False."""
        return self._task.plant.completes(self._past[-1][0])

    @property
    def is_allowed(self):
        """True if the run is allowed, otherwise False."""
        return self._task.rule.has(self._past[-1][0])

    @property
    def belief(self):
        """The belief since the last visible event."""
        return list(self._past[-1][1])

    @property
    def choices(self):
        """The list of the choices that the menu lists for the belief."""
        return [list(choice) for choice in self._plan[self._past[-1][1]]]

    def __len__(self):
        return len(self._past[-1][0])

    def __eq__(self, other):
        if not isinstance(other, SteadyGuard) or self._task != other._task:
            return False
        return self.run == other.run and self.belief == other.belief and self.blocked == other.blocked

    def able(self):
        """The ascending list of the events that the plant can do now and that are not blocked."""
        run, _, choice = self._past[-1]
        return open_events(self._task, run, choice)

    def choose(self, choice):
        """Replaces the choice in force. Raises InvalidChoice(choice) if that is not possible now."""
        run, belief, _ = self._past[-1]
        is_hidden = len(run) > 0 and run[-1] not in self._task.visible
        if is_hidden or choice not in self.choices:
            raise InvalidChoice(list(choice))
        self._past.append((run, belief, tuple(choice)))

    def undo(self):
        """Takes back the last event or the last choice. Raises NothingToUndo(0) if there is neither."""
        if len(self._past) == 1:
            raise NothingToUndo(0)
        self._past.pop()


def possible_events(task, run):
    """The ascending list of the events that the plant can do after a run."""
    plant = task.plant
    return [event for event, _ in plant.states[plant.state_after(run)]]


def open_events(task, run, blocked):
    """The ascending list of the events that the plant can do after a run and that are not blocked."""
    return [event for event in possible_events(task, run) if event not in blocked]


def check_event(task, run, blocked, event):
    """Raises NotPossible(event) if the plant cannot do an event after a run, then Blocked(event)."""
    if event not in possible_events(task, run):
        raise NotPossible(event)
    if event in blocked:
        raise Blocked(event)

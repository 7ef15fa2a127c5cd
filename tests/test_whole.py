"""What the document promises over the whole program: what is read answers everything as what was shown."""

import unittest

from seenbars import beliefs, exact, finishing, greatest, keepers, least
from seenbars.errors import GateError
from seenbars.exact import Team
from seenbars.guards import Guard, SteadyGuard
from seenbars.keepers import Keeper, first_fault, passed
from seenbars.machines import Machine, first_unlike, seen_machine
from seenbars.readings import read_keeper, read_machine, read_task
from seenbars.tasks import Task
from seenbars.texts import show_keeper, show_machine, show_task
from tests.live import outcome
from tests.plain import Numbers, is_run, lists_up_to, some_of, some_rooms, some_spec
from tests.searches import GOALS, some_plain_task
from tests.test_general import told

EVENTS = ["a", "b", "c", "d"]


def some_task(numbers, sizes, events=EVENTS):
    plant = Machine(*some_spec(numbers, events, sizes[0], 4 + numbers.below(6)))
    rule = Machine(*some_spec(numbers, events, sizes[1], 8 + numbers.below(20)))
    return Task(plant, rule, some_of(numbers, plant.events), some_of(numbers, plant.events))


def small_tasks(seed, count):
    numbers = Numbers(seed)
    while count > 0:
        task = some_task(numbers, (1 + numbers.below(4), 1 + numbers.below(3)))
        if len(task.positions) <= 6:
            yield numbers, task
            count -= 1


def task_answers(task):
    """What each function of a task alone says; with an error its class and its value."""
    calls = [greatest.kept, greatest.removal, greatest.greatest_passed, greatest.greatest_keeper, beliefs.menu, beliefs.ranks,
             beliefs.steady_keeper, finishing.book, finishing.losses, finishing.can_finish, finishing.greatest_seen,
             finishing.greatest_seen_keeper, Team.alone, SteadyGuard]
    found = [told(task), told(outcome(Team.alone(task).make_keepers))]
    for call in calls:
        found.append(told(outcome(call, task)))
    for goal in GOALS:
        found.append([least.is_enough(task, goal), least.least_visible(task, goal), least.least_blockable(task, goal)])
    return found


def keeper_answers(task, keeper, other):
    """What each function of a task and of two keepers says."""
    found = [told(keeper), told(other), told(keeper | other), told(passed(task, keeper)), keeper == other]
    found.append([first_fault(task, keeper, goal) for goal in GOALS])
    found.append(keepers.first_parting(task, keeper, other))
    found.append(told(exact.passed_by(Team.alone(task), [keeper])))
    found.append(told(Guard(task, keeper)))
    for run in lists_up_to(task.plant.events, 2):
        found.append(outcome(Guard(task, keeper).attempt, list(run)))
        found.append(outcome(keepers.passes, task, keeper, list(run)))
        found.append(keeper.blocked_after(list(run)))
    return found


def machine_answers(one, other):
    """What each function and operator of two machines says."""
    found = [told(one), told(other), told(one & other), told(one | other), one.within(other), first_unlike(one, other),
             one == other, told(seen_machine(one, ["a", "c"]))]
    for run in lists_up_to(EVENTS, 2):
        found.append([one.has(list(run)), one.completes(list(run)), list(run) in other, outcome(one.state_after, list(run))])
    return found


class Reading(unittest.TestCase):
    def test_tasks(self):
        for _, task in small_tasks(501, 60):
            self.assertEqual(task_answers(read_task(show_task(task))), task_answers(task), show_task(task))

    def test_keepers(self):
        for numbers, task in small_tasks(502, 60):
            some = [Keeper(some_rooms(numbers, task.blockable, EVENTS + ["z"], 1 + numbers.below(4))) for _ in range(2)]
            again = [read_keeper(show_keeper(keeper)) for keeper in some]
            self.assertEqual(keeper_answers(read_task(show_task(task)), *again), keeper_answers(task, *some))

    def test_keepers_that_block_too_much(self):
        numbers = Numbers(503)
        for _, task in small_tasks(504, 30):
            keeper = Keeper(some_rooms(numbers, EVENTS + ["z"], EVENTS, 3))
            again = read_keeper(show_keeper(keeper))
            for call in (passed, Guard, keepers.first_fault):
                self.assertEqual(told(outcome(call, task, keeper)), told(outcome(call, task, again)))

    def test_machines(self):
        numbers = Numbers(505)
        for _ in range(100):
            one, other = [Machine(*some_spec(numbers, EVENTS, 1 + numbers.below(6), 5)) for _ in range(2)]
            again = [read_machine(show_machine(machine)) for machine in (one, other)]
            self.assertEqual(machine_answers(*again), machine_answers(one, other))
            joined = read_machine(show_machine(one | other))
            self.assertEqual(machine_answers(joined, again[0]), machine_answers(one | other, one))

    def test_teams(self):
        for numbers, task in small_tasks(506, 60):
            again = read_task(show_task(task))
            members = [(some_of(numbers, task.plant.events), some_of(numbers, task.plant.events)) for _ in range(2)]
            teams = [Team(some.plant, some.rule, members) for some in (task, again)]
            self.assertEqual(teams[0], teams[1])
            self.assertEqual(teams[0].find_fault(), teams[1].find_fault())


class Together(unittest.TestCase):
    def test_guards_pass_what_passed_says(self):
        """Also with what the package made itself, and with what was read."""
        found = [0, 0]
        for _, task in small_tasks(511, 60):
            seeing = task.with_visible(task.plant.events)
            made = [(task, beliefs.steady_keeper(task)), (seeing, greatest.greatest_keeper(task)),
                    (seeing, finishing.greatest_seen_keeper(seeing)), (task, Keeper([(task.blockable, {})]))]
            for some, keeper in made:
                if keeper is not None:
                    guard = Guard(read_task(show_task(some)), read_keeper(show_keeper(keeper)))
                    through = passed(some, keeper)
                    for run in lists_up_to(some.plant.events, 3):
                        done = isinstance(outcome(guard.attempt, list(run)), list)
                        self.assertIs(done, through.has(list(run)))
                        found[done] += 1
        self.assertGreater(min(found), 1000)

    def test_steady_guards_and_the_other_certificates(self):
        found = {}
        for _, task in small_tasks(512, 150):
            steady = least.is_enough(task, "steady")
            self.assertIs(isinstance(outcome(SteadyGuard, task), SteadyGuard), steady)
            self.assertIs(beliefs.judge_menu(task, beliefs.menu(task)), steady)
            finishing_too = least.is_enough(task, "finishing")
            self.assertIs(finishing.can_finish(task), finishing_too)
            self.assertIs(finishing.judge_book(task, finishing.book(task)), finishing_too)
            seeing = task.with_visible(task.plant.events)
            self.assertIs(least.is_enough(seeing, "finishing"), (0, 0) in greatest.kept(task))
            self.assertIs(least.is_enough(task, "exact"), Team.alone(task).find_fault() is None)
            found[steady, finishing_too] = found.get((steady, finishing_too), 0) + 1
        self.assertEqual(len(found), 3)

    def test_least_sets_and_the_greatest_gatekeeper(self):
        """Some set of visible events is enough just if all of them are enough."""
        for _, task in small_tasks(513, 60):
            for goal in GOALS:
                every = task.with_visible(task.plant.events)
                self.assertIs(least.least_visible(task, goal) != [], least.is_enough(every, goal))
                free = task.with_blockable(task.plant.events)
                self.assertIs(least.least_blockable(task, goal) != [], least.is_enough(free, goal))
                if greatest.greatest_passed(task) is None:
                    self.assertEqual(least.least_visible(task, "finishing"), [])

    def test_runs_of_a_steady_guard_are_allowed_runs(self):
        numbers = Numbers(514)
        many = 0
        for _ in range(150):
            plain = some_plain_task(numbers, ("a", "b", "c"), (3, 2), 5, 3)
            task = Task(Machine(*plain.plant), Machine(*plain.rule), plain.blockable, plain.visible)
            guard = outcome(SteadyGuard, read_task(show_task(task)))
            if isinstance(guard, SteadyGuard):
                while guard.able() and len(guard) < 12:
                    guard(guard.able()[numbers.below(len(guard.able()))])
                    many += 1
                    self.assertTrue(is_run(plain.plant, guard.run) and is_run(plain.rule, guard.run))
                    self.assertTrue(guard.run in task.allowed)
                    self.assertEqual(task.position_after(guard.run)[0], guard.state)
                self.assertTrue(len(guard) == 12 or guard.is_complete)
        self.assertGreater(many, 300)

    def test_errors_are_those_of_the_package(self):
        """Whatever wrong is told here, the error is one of errors.py."""
        for call, wrong in [(read_machine, ["", "0", "0: a", "0: a b", "0: a 1 2"]), (read_keeper, ["", "0", "0 [", "0 []"]),
                            (read_task, ["", "plant", "plant 0: | rule 0:", "plant 0: | rule 0: | a | b | c"])]:
            for text in wrong:
                self.assertRaises(GateError, call, text)


if __name__ == "__main__":
    unittest.main()

"""The section of least.py, and what point [10] says of the four goals and of sets of events that are enough."""

import unittest

from seenbars import least
from seenbars.beliefs import judge_menu, judge_ranks, menu, ranks, steady_keeper
from seenbars.errors import UnknownGoal
from seenbars.exact import Team
from seenbars.finishing import book, can_finish, judge_book, judge_losses, losses
from seenbars.keepers import Keeper, first_fault, passed
from seenbars.least import is_enough, least_blockable, least_visible
from seenbars.machines import Machine
from seenbars.tasks import Task
from tests.plain import Numbers, is_run, lists_up_to, raised, some_spec
from tests.searches import GOALS, PlainTeam, all_rooms, some_plain_task, subsets

PLANT = Machine([{"fill": 1}, {"run": 0, "leak": 2}, {"run": 0, "drain": 0}], [0])
RULE = Machine([{"fill": 1}, {"run": 0, "leak": 2}, {"drain": 0}], [])
TASK = Task(PLANT, RULE, ["run"], [])
EVENTS = ["a", "b", "c", "d"]


def task_of(plain):
    return Task(Machine(*plain.plant), Machine(*plain.rule), plain.blockable, plain.visible)


def cases(seed, count, events=("a", "b"), sizes=(2, 2), missing=4, ratio=2):
    numbers = Numbers(seed)
    for _ in range(count):
        plain = some_plain_task(numbers, events, sizes, missing, ratio)
        yield plain, task_of(plain)


def large_tasks(seed, count):
    """Tasks with plants of four events and with six positions."""
    numbers = Numbers(seed)
    while count > 0:
        size = 2 + numbers.below(5)
        plant = Machine(*some_spec(numbers, EVENTS, size, missing=3 + numbers.below(8)))
        rule = Machine(*some_spec(numbers, EVENTS, 1 + numbers.below(9 - size), missing=8 + numbers.below(20)))
        if plant.events == EVENTS and len(plant) + len(rule) <= 8:
            blockable, visible = [[event for event in EVENTS if numbers.below(4) > 0] for _ in range(2)]
            task = Task(plant, rule, blockable, visible)
            if len(task.positions) == 6:
                yield task
                count -= 1


def has_gatekeeper(task, goal):
    """Whether there is a gatekeeper, by the functions of the other modules."""
    if goal == "exact":
        return Team.alone(task).find_fault() is None
    if goal == "safe":
        return passed(task, Keeper([(task.blockable, {})])).within(task.allowed)
    return menu(task) != [] if goal == "steady" else can_finish(task)


def plain_least(events, enough):
    """The sets that are enough while no proper subset of them is, by size and then in order."""
    good = [chosen for chosen in subsets(events) if enough(list(chosen))]
    return [list(chosen) for chosen in good if not any(set(other) < set(chosen) for other in good)]


class Goals(unittest.TestCase):
    def test_each_goal(self):
        # For each goal whether there is a gatekeeper: blocking `run` for ever is finishing, but not exact.
        self.assertEqual([is_enough(TASK, goal) for goal in GOALS], [False, True, True, True])
        self.assertEqual([is_enough(TASK.with_visible(["fill", "leak"]), goal) for goal in GOALS], [True] * 4)
        self.assertEqual([is_enough(TASK.with_blockable([]), goal) for goal in GOALS], [False] * 4)

    def test_goals_apart(self):
        free = Machine([{event: 0 for event in EVENTS}], [])
        # Going on for ever without an end is steady, but not finishing.
        endless = Task(Machine([{"a": 1}, {"b": 0}], []), free, [], ["a"])
        self.assertEqual([is_enough(endless, goal) for goal in GOALS], [True, True, True, False])
        # Stopping too early is safe and exact, but not steady.
        stopping = Task(Machine([{"a": 1}, {}], [0]), free, [], [])
        self.assertEqual([is_enough(stopping, goal) for goal in GOALS], [True, True, False, False])
        # What breaks the rule cannot be told apart from what must go on.
        hidden = Task(Machine([{"h": 1, "a": 2}, {"a": 2}, {}], [2]), Machine([{"h": 1, "a": 0}, {}], []), ["a"], [])
        self.assertEqual([is_enough(hidden, goal) for goal in GOALS], [False, True, False, False])
        self.assertEqual([is_enough(hidden.with_blockable(["h"]), goal) for goal in GOALS], [False, True, True, True])
        nothing = Task(Machine([{}], []), free, [], [])
        self.assertEqual([is_enough(nothing, goal) for goal in GOALS], [True, True, False, False])
        self.assertEqual([is_enough(Task(Machine([{}], [0]), free, [], []), goal) for goal in GOALS], [True] * 4)

    def test_unknown_goals(self):
        for call in (is_enough, least_visible, least_blockable):
            for goal in ["", "Exact", "exact ", "finish", "none", "all", "steadyy", "safe,steady", "goal", "0"]:
                self.assertEqual(raised(self, UnknownGoal, call, TASK, goal), goal)
                self.assertEqual(raised(self, UnknownGoal, call, goal=goal, task=TASK.with_blockable([])), goal)
                self.assertEqual(raised(self, UnknownGoal, call, Task(Machine([{}], []), RULE, [], []), goal), goal)

    def test_by_name(self):
        self.assertIs(is_enough(goal="safe", task=TASK), True)
        self.assertEqual(least_visible(goal="safe", task=TASK), [[]])
        self.assertEqual(least_blockable(goal="steady", task=TASK), [["fill"], ["leak"], ["run"]])

    def test_places(self):
        for name in ("is_enough", "least_visible", "least_blockable"):
            self.assertEqual(getattr(least, name).__module__, "seenbars.least")

    def test_answers_are_true_or_false(self):
        for task in (TASK, TASK.with_blockable([]), TASK.with_visible(PLANT.events)):
            for goal in GOALS:
                self.assertIn(is_enough(task, goal), (True, False))
                self.assertIs(type(is_enough(task, goal)), bool)


class Gatekeepers(unittest.TestCase):
    """`is_enough` against plain searches."""

    def test_pairs_of_beliefs_and_choices(self):
        found = {}
        for plain, task in cases(401, 160, ("a", "b", "c"), (3, 2), 5, 3):
            for goal in ("steady", "finishing"):
                expected = any(belief == ((0, 0),) for belief, _ in plain.greatest_pairs(goal))
                self.assertIs(is_enough(task, goal), expected, (goal, str(plain)))
                found[goal, expected] = found.get((goal, expected), 0) + 1
        self.assertGreater(min(found.values()), 15)

    def test_all_runs(self):
        """Runs up to seven or eight events are gone through, which is enough for these tasks."""
        found = {}
        for plain, task in cases(402, 200, ("a", "b"), (3, 2), 4, 2):
            # Whoever blocks all passes the runs of unblockable events.
            hidden = [event for event in plain.events if event not in plain.blockable]
            safe = all(is_run(plain.rule, run) or not is_run(plain.plant, run) for run in lists_up_to(hidden, 7))
            self.assertIs(is_enough(task, "safe"), safe, str(plain))
            team = PlainTeam(plain.plant, plain.rule, [(plain.blockable, plain.visible)], 8)
            exact = team.find_fault(4) is None
            self.assertIs(is_enough(task, "exact"), exact, str(plain))
            for kind in (("safe", safe), ("exact", exact)):
                found[kind] = found.get(kind, 0) + 1
        self.assertGreater(min(found.values()), 15)

    def test_all_keepers_with_two_rooms(self):
        """No keeper has a goal that is_enough denies; in these small tasks two rooms are enough for each goal."""
        found = {}
        for plain, task in cases(403, 100, missing=3, ratio=3):
            keepers = [Keeper(rooms) for size in (1, 2) for rooms in all_rooms(plain.blockable, plain.visible, size)]
            for goal in GOALS:
                some = any(first_fault(task, keeper, goal) is None for keeper in keepers)
                self.assertIs(is_enough(task, goal), some, (goal, str(plain)))
                found[goal, some] = found.get((goal, some), 0) + 1
        self.assertEqual(len(found), 8)
        self.assertGreater(min(found.values()), 4)

    def test_keepers_that_the_package_makes(self):
        for _, task in cases(404, 150, ("a", "b", "c"), (3, 2), 5, 3):
            if is_enough(task, "exact"):
                self.assertIsNone(first_fault(task, Team.alone(task).make_keepers()[0], "exact"))
            if is_enough(task, "safe"):
                self.assertIsNone(first_fault(task, Keeper([(task.blockable, {})]), "safe"))
            if is_enough(task, "steady"):
                self.assertIsNone(first_fault(task, steady_keeper(task), "steady"))

    def test_goals_that_follow_from_others(self):
        for _, task in cases(405, 300, ("a", "b", "c"), (3, 2), 5, 3):
            exact, safe, steady, finishing = [is_enough(task, goal) for goal in GOALS]
            self.assertTrue(safe or not exact)
            self.assertTrue(safe or not steady)
            self.assertTrue(steady or not finishing)

    def test_certificates(self):
        found = {}
        for _, task in cases(406, 300, ("a", "b", "c"), (3, 2), 5, 3):
            steady, finishing = is_enough(task, "steady"), is_enough(task, "finishing")
            self.assertIs(judge_menu(task, menu(task)), steady)
            self.assertIs(ranks(task) is None, steady)
            self.assertIs(judge_book(task, book(task)), finishing)
            self.assertIs(losses(task) is None, finishing)
            if not steady:
                self.assertIs(judge_ranks(task, ranks(task)), True)
            if not finishing:
                self.assertIs(judge_losses(task, losses(task)), True)
            found[steady, finishing] = found.get((steady, finishing), 0) + 1
        self.assertEqual(sorted(found), [(False, False), (True, False), (True, True)])
        self.assertGreater(min(found.values()), 10)


class LeastSets(unittest.TestCase):
    def check(self, task, goal):
        """All least sets, against all sets and the functions of the other modules."""
        events = task.plant.events
        visible = plain_least(events, lambda chosen: has_gatekeeper(task.with_visible(chosen), goal))
        blockable = plain_least(events, lambda chosen: has_gatekeeper(task.with_blockable(chosen), goal))
        found = least_visible(task, goal), least_blockable(task, goal)
        self.assertEqual(found, (visible, blockable), (goal, task.plant.states, task.rule.states))
        return found

    def check_words(self, task, goal):
        """The words of the document: each set is enough, no proper subset of it is; the order; each list is new."""
        for sets, change in ((least_visible(task, goal), task.with_visible), (least_blockable(task, goal), task.with_blockable)):
            self.assertEqual(sets, sorted(sets, key=lambda chosen: (len(chosen), chosen)))
            self.assertEqual(len({id(chosen) for chosen in sets}), len(sets))
            for chosen in sets:
                self.assertEqual(chosen, sorted(set(chosen)))
                self.assertTrue(set(chosen) <= set(task.plant.events))
                self.assertTrue(is_enough(change(chosen), goal))
                for less in subsets(chosen):
                    self.assertIs(is_enough(change(list(less)), goal), list(less) == chosen)

    def test_small_tasks(self):
        kinds = {}
        for _, task in cases(411, 120, ("a", "b", "c"), (3, 2), 5, 3):
            for goal in GOALS:
                for sets in self.check(task, goal):
                    kind = "none" if not sets else "empty" if sets == [[]] else "one" if len(sets) == 1 else "many"
                    kinds[goal, kind] = kinds.get((goal, kind), 0) + 1
                self.check_words(task, goal)
        for kind in ("none", "empty", "one"):
            for goal in GOALS:
                self.assertIn((goal, kind), kinds)
        self.assertGreater(sum(many for (_, kind), many in kinds.items() if kind == "many"), 20)

    def test_tasks_at_the_limits(self):
        found = 0
        for task in large_tasks(412, 25):
            for goal in GOALS:
                found += sum(len(sets) > 1 for sets in self.check(task, goal))
        for task in large_tasks(413, 6):
            for goal in GOALS:
                self.check_words(task, goal)
        self.assertGreater(found, 10)

    def test_sets_stay_enough_if_events_are_added(self):
        for task in large_tasks(414, 8):
            for goal in GOALS:
                for change in (task.with_visible, task.with_blockable):
                    enough = {chosen: is_enough(change(list(chosen)), goal) for chosen in subsets(EVENTS)}
                    for chosen in enough:
                        for other in enough:
                            if set(chosen) <= set(other):
                                self.assertTrue(enough[other] or not enough[chosen], (goal, chosen, other))

    def test_order(self):
        """By the number of events first, then as lists."""
        plant = Machine([{"a": 1, "b": 2, "c": 0, "d": 3}, {"d": 4, "b": 0}, {"d": 0, "a": 4}, {"b": 4}, {}], [0, 1, 2, 3])
        rule = Machine([{"a": 1, "b": 2, "c": 0, "d": 3}, {"d": 4, "b": 0}, {"a": 4}, {}, {"a": 0}], [])
        task = Task(plant, rule, plant.events, [])
        for goal in GOALS:
            self.check(task, goal)
        wide = Task(Machine([{"a": 1, "b": 1, "c": 1, "d": 2}, {"a": 2, "c": 2}, {}], [0, 1]),
                    Machine([{"a": 1, "b": 1, "c": 1, "d": 2}, {}, {}], []), [], EVENTS)
        self.assertEqual(least_blockable(wide, "exact"), [["a", "c"]])
        self.assertEqual(least_blockable(wide, "safe"), [["a", "c"]])
        apart = Task(Machine([{"d": 1}, {"a": 2, "b": 2}, {"c": 3}, {}], [0]),
                     Machine([{"d": 1}, {"a": 2, "b": 2}, {}], []), [], [])
        self.assertEqual(least_blockable(apart, "safe"), [["c"], ["d"], ["a", "b"]])
        self.assertEqual(least_blockable(apart, "finishing"), [["d"]])

    def test_given_lists_do_not_matter_for_their_own_kind(self):
        for goal in GOALS:
            for events in ([], ["run"], PLANT.events):
                self.assertEqual(least_blockable(TASK.with_blockable(events), goal), least_blockable(TASK, goal))
                self.assertEqual(least_visible(TASK.with_visible(events), goal), least_visible(TASK, goal))

    def test_no_set_and_the_empty_set(self):
        stuck = Task(Machine([{"a": 0}], []), Machine([{}], []), ["a"], ["a"])
        self.assertEqual([least_visible(stuck, goal) for goal in GOALS], [[[]], [[]], [], []])
        self.assertEqual([least_blockable(stuck, goal) for goal in GOALS], [[["a"]], [["a"]], [], []])
        self.assertEqual([least_visible(stuck.with_blockable([]), goal) for goal in GOALS], [[], [], [], []])
        still = Task(Machine([{}], [0]), Machine([{}], []), [], [])
        for call in (least_visible, least_blockable):
            self.assertEqual([call(still, goal) for goal in GOALS], [[[]]] * 4)

    def test_events_of_the_rule_alone_do_not_count(self):
        task = Task(Machine([{"a": 1}, {"b": 0}], [0]), Machine([{"a": 1, "z": 0}, {"z": 1}], []), ["b"], [])
        for goal in GOALS:
            for sets in self.check(task, goal):
                self.assertFalse(any("z" in chosen for chosen in sets))

    def test_lists_that_are_changed_later(self):
        before = least_visible(TASK, "exact")
        for chosen in least_visible(TASK, "exact") + [before[:]]:
            chosen.clear()
        self.assertEqual(least_visible(TASK, "exact"), [["drain", "leak"], ["fill", "leak"]])
        self.assertEqual((TASK.blockable, TASK.visible), (["run"], []))


if __name__ == "__main__":
    unittest.main()

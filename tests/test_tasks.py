"""Points [6] and [7] and the section of tasks.py."""

import unittest
from unittest import mock

from seenbars.errors import BrokenRule, InvalidName, InvalidPosition, NotPossible, UnknownEvent
from seenbars.machines import Machine
from seenbars.tasks import Task
from tests.plain import BAD_NAMES, Numbers, is_complete, is_run, lists_up_to, raised, some_of, some_spec, view_in

PLANT = Machine([{"fill": 1}, {"run": 2, "leak": 3}, {"stop": 0}, {"run": 4, "drain": 0}, {"stop": 0}], [0])
RULE = Machine([{"fill": 1}, {"run": 2, "leak": 3}, {"stop": 0}, {"drain": 0}], [])


def some_tasks(count, size=3):
    """Tuples (plant spec, rule spec, task); the rule may have events that the plant does not have."""
    numbers = Numbers(21)
    for _ in range(count):
        plant = some_spec(numbers, ["a", "b"], size, missing=5)
        rule = some_spec(numbers, ["a", "b", "c"], size, missing=4)
        events = Machine(*plant).events
        yield plant, rule, Task(Machine(*plant), Machine(*rule), some_of(numbers, events), some_of(numbers, events))


class Building(unittest.TestCase):
    def test_lists_in_any_order_and_twice(self):
        task = Task(PLANT, RULE, ["run", "fill", "run"], ["stop", "drain", "stop", "leak"])
        self.assertEqual(task.blockable, ["fill", "run"])
        self.assertEqual(task.visible, ["drain", "leak", "stop"])
        self.assertEqual(task.plant, PLANT)
        self.assertEqual(task.rule, RULE)

    def test_empty_lists(self):
        task = Task(PLANT, RULE, [], [])
        self.assertEqual((task.blockable, task.visible), ([], []))

    def test_one_state_without_steps(self):
        task = Task(Machine([{}], []), Machine([{"a": 0}], []), [], [])
        self.assertEqual(task.positions, [(0, 0)])
        self.assertEqual(task.steps_at((0, 0)), [])
        self.assertEqual(task.allowed, Machine([{}], []))
        self.assertEqual(task.position_after([]), (0, 0))

    def test_names_come_first(self):
        for name in BAD_NAMES:
            self.assertEqual(raised(self, InvalidName, Task, PLANT, RULE, ["other", name, "A"], ["B"]), name)
            self.assertEqual(raised(self, InvalidName, Task, PLANT, RULE, ["other"], ["fill", name, "A"]), name)

    def test_unknown_events(self):
        self.assertEqual(raised(self, UnknownEvent, Task, PLANT, RULE, ["run", "y", "x"], ["w"]), "y")
        self.assertEqual(raised(self, UnknownEvent, Task, PLANT, RULE, ["run"], ["fill", "w", "v"]), "w")

    def test_events_of_states_that_are_not_reached_are_unknown(self):
        plant = Machine([{"a": 0}, {"b": 0}], [])
        self.assertEqual(raised(self, UnknownEvent, Task, plant, RULE, ["a", "b"], []), "b")

    def test_events_of_the_rule_alone_are_unknown(self):
        plant = Machine([{"a": 0}], [])
        self.assertEqual(raised(self, UnknownEvent, Task, plant, RULE, [], ["fill"]), "fill")


class OtherEvents(unittest.TestCase):
    def test_with_blockable(self):
        task = Task(PLANT, RULE, ["run"], ["fill"])
        self.assertEqual(task.with_blockable(["stop", "leak", "stop"]), Task(PLANT, RULE, ["leak", "stop"], ["fill"]))
        self.assertEqual(task.with_blockable([]), Task(PLANT, RULE, [], ["fill"]))
        self.assertEqual(task, Task(PLANT, RULE, ["run"], ["fill"]))

    def test_with_visible(self):
        task = Task(PLANT, RULE, ["run"], ["fill"])
        self.assertEqual(task.with_visible(["stop", "leak", "stop"]), Task(PLANT, RULE, ["run"], ["leak", "stop"]))
        self.assertEqual(task.with_visible([]), Task(PLANT, RULE, ["run"], []))
        self.assertEqual(task, Task(PLANT, RULE, ["run"], ["fill"]))

    def test_errors(self):
        task = Task(PLANT, RULE, ["run"], ["fill"])
        for call in (task.with_blockable, task.with_visible):
            self.assertEqual(raised(self, InvalidName, call, ["other", "A1", "B"]), "A1")
            self.assertEqual(raised(self, UnknownEvent, call, ["run", "y", "x"]), "y")
        self.assertEqual(task, Task(PLANT, RULE, ["run"], ["fill"]))


class Equality(unittest.TestCase):
    def test_each_part_counts(self):
        task = Task(PLANT, RULE, ["run"], ["fill"])
        self.assertEqual(task, Task(PLANT, RULE, ["run", "run"], ["fill"]))
        self.assertNotEqual(task, Task(PLANT | Machine([{}], []), PLANT, ["run"], ["fill"]))
        self.assertNotEqual(task, Task(PLANT & Machine([{"fill": 1}, {"run": 0, "leak": 0}], []), RULE, ["run"],
                                       ["fill"]))
        self.assertNotEqual(task, Task(PLANT, RULE, ["run", "leak"], ["fill"]))
        self.assertNotEqual(task, Task(PLANT, RULE, ["run"], ["fill", "leak"]))

    def test_final_states_of_the_rule_count(self):
        ended = Machine([dict(row) for row in RULE.states], [0])
        self.assertNotEqual(Task(PLANT, RULE, [], []), Task(PLANT, ended, [], []))

    def test_other_things(self):
        task = Task(PLANT, RULE, [], [])
        for thing in (None, 1, "x", [], PLANT, RULE, mock.ANY, Task):
            self.assertIs(task == thing, False)
            self.assertIs(task != thing, True)


class Views(unittest.TestCase):
    def test_views(self):
        task = Task(PLANT, RULE, ["run"], ["leak", "run"])
        self.assertEqual(task.view_of([]), [])
        self.assertEqual(task.view_of(["run", "fill", "leak", "run", "other"]), ["run", "leak", "run"])
        self.assertEqual(task.view_of(BAD_NAMES + ["leak"] + BAD_NAMES), ["leak"])
        self.assertEqual(task.with_visible([]).view_of(["run", "leak"]), [])

    def test_plain(self):
        for _, _, task in some_tasks(20):
            for run in lists_up_to(["a", "b", "c"], 3):
                self.assertEqual(task.view_of(list(run)), view_in(task.visible, run))


class AllowedRuns(unittest.TestCase):
    def test_final_states_of_the_rule_change_no_allowed_run(self):
        for finals in ([], [0], [1, 2], [0, 1, 2, 3]):
            rule = Machine([dict(row) for row in RULE.states], finals)
            self.assertEqual(Task(PLANT, rule, [], []).allowed, Task(PLANT, RULE, [], []).allowed)

    def test_final_states_of_the_rule_count_for_positions(self):
        plant, marked = Machine([{"a": 0}], []), Machine([{"a": 1}, {"a": 0}], [1])
        self.assertEqual(Task(plant, Machine([{"a": 0}], []), [], []).positions, [(0, 0)])
        self.assertEqual(Task(plant, marked, [], []).positions, [(0, 0), (0, 1)])

    def test_plain(self):
        for plant, rule, task in some_tasks(60):
            allowed = task.allowed
            self.assertIsInstance(allowed, Machine)
            for run in lists_up_to(["a", "b", "c"], 5):
                both = is_run(plant, run) and is_run(rule, run)
                self.assertIs(allowed.has(list(run)), both, (plant, rule))
                self.assertIs(allowed.completes(list(run)), both and is_complete(plant, run), (plant, rule))


class Positions(unittest.TestCase):
    def test_plain(self):
        for plant, rule, task in some_tasks(60):
            found = set()
            for run in lists_up_to(["a", "b"], 8):
                if is_run(plant, run) and is_run(rule, run):
                    found.add((task.plant.state_after(list(run)), task.rule.state_after(list(run))))
            self.assertEqual(task.positions, sorted(found), (plant, rule))

    def test_position_after(self):
        for plant, rule, task in some_tasks(40):
            for run in lists_up_to(["a", "b", "c"], 4):
                stops = [next((at for at in range(len(run)) if not is_run(spec, run[:at + 1])), None)
                         for spec in (plant, rule)]
                if stops[0] is not None:
                    self.assertEqual(raised(self, NotPossible, task.position_after, list(run)), stops[0])
                elif stops[1] is not None:
                    self.assertEqual(raised(self, BrokenRule, task.position_after, list(run)), stops[1])
                else:
                    self.assertEqual(task.position_after(list(run)),
                                     (task.plant.state_after(list(run)), task.rule.state_after(list(run))))

    def test_errors_in_order(self):
        task = Task(PLANT, RULE, ["run"], [])
        self.assertEqual(raised(self, BrokenRule, task.position_after, ["fill", "leak", "run"]), 2)
        self.assertEqual(raised(self, BrokenRule, task.position_after, ["fill", "leak", "run", "stop", "fill"]), 2)
        self.assertEqual(raised(self, NotPossible, task.position_after, ["fill", "leak", "run", "leak"]), 3)
        for name in BAD_NAMES:
            self.assertEqual(raised(self, NotPossible, task.position_after, ["fill", name]), 1)

    def test_steps_at(self):
        for plant, rule, task in some_tasks(40):
            for run in lists_up_to(["a", "b"], 5):
                if is_run(plant, run) and is_run(rule, run):
                    expected = []
                    for event in ["a", "b", "c"]:
                        longer = list(run) + [event]
                        if is_run(plant, longer):
                            expected.append((event, task.position_after(longer) if is_run(rule, longer) else None))
                    self.assertEqual(task.steps_at(task.position_after(list(run))), expected, (plant, rule, run))

    def test_invalid_positions(self):
        task = Task(PLANT, RULE, ["run"], [])
        for position in [(0, 1), (1, 0), (4, 4), (-1, 0), (0, -1), (99, 99)]:
            self.assertEqual(raised(self, InvalidPosition, task.steps_at, position), position)

    def test_eight_least_states_and_eight_positions(self):
        plant = Machine([{"a": 1, "b": 0}, {"a": 2}, {"a": 3}, {"a": 0}], [3])
        rule = Machine([{"a": 1, "b": 2}, {"a": 0}, {"a": 3}, {"a": 2}], [3])
        task = Task(plant, rule, ["a"], ["b"])
        self.assertEqual(len(plant) + len(rule), 8)
        self.assertEqual(task.positions, [(0, 0), (0, 2), (1, 1), (1, 3), (2, 0), (2, 2), (3, 1), (3, 3)])
        self.assertEqual(task.steps_at((0, 0)), [("a", (1, 1)), ("b", (0, 2))])
        self.assertEqual(task.steps_at((0, 2)), [("a", (1, 3)), ("b", None)])
        self.assertEqual(task.steps_at((3, 3)), [("a", (0, 2))])


if __name__ == "__main__":
    unittest.main()

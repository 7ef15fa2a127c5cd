"""Point [8] and the section of keepers.py."""

import unittest
from unittest import mock

from seenbars.errors import InvalidName, InvalidStep, NotBlockable, NotPossible, UnknownGoal
from seenbars.keepers import Keeper, first_fault, first_parting, passed, passes
from seenbars.machines import Machine
from seenbars.tasks import Task
from tests.plain import (BAD_NAMES, Numbers, PlainWatch, blocked_at, events_in, is_complete, is_run, least_rooms,
                         lists_up_to, raised, some_of, some_rooms, some_spec)

GOALS = ["exact", "safe", "steady", "finishing"]
PLANT = Machine([{"fill": 1}, {"run": 2, "leak": 3}, {"stop": 0}, {"run": 4, "drain": 0}, {"stop": 0}], [0])
RULE = Machine([{"fill": 1}, {"run": 2, "leak": 3}, {"stop": 0}, {"drain": 0}], [])


def back(keeper):
    """The rooms of a keeper as its class takes them."""
    return [(blocked, dict(steps)) for blocked, steps in keeper.rooms]


class Case:
    """A small task with keepers, as specs and as objects."""

    def __init__(self, numbers, events=("a", "b"), sizes=(2, 2, 2), missing=4):
        self.plant = some_spec(numbers, events, sizes[0], missing)
        self.rule = some_spec(numbers, events, sizes[1], missing + 3)
        plant = Machine(*self.plant)
        blockable = some_of(numbers, plant.events)
        self.visible = some_of(numbers, plant.events)
        self.task = Task(plant, Machine(*self.rule), blockable, self.visible)
        self.rooms = [some_rooms(numbers, blockable, list(events) + ["z"], sizes[2]) for _ in range(2)]
        self.keepers = [Keeper(rooms) for rooms in self.rooms]
        self.watches = [PlainWatch(self.plant, self.rule, self.visible, rooms) for rooms in self.rooms]

    def __str__(self):
        return str((self.plant, self.rule, self.task.blockable, self.visible, self.rooms))


class Building(unittest.TestCase):
    def test_blocked_in_any_order_and_twice(self):
        keeper = Keeper([(["b", "a", "b"], {})])
        self.assertEqual(keeper.rooms, [(["a", "b"], [])])
        self.assertEqual(keeper.blocked_after(["c", "d"]), ["a", "b"])
        self.assertEqual(len(keeper), 1)

    def test_rooms_that_are_not_reached_or_alike(self):
        self.assertEqual(Keeper([([], {}), (["a"], {"b": 0})]).rooms, [([], [])])
        self.assertEqual(Keeper([(["a"], {"x": 1}), (["a"], {"y": 0})]).rooms, [(["a"], [])])
        self.assertEqual(Keeper([([], {"x": 1}), (["a"], {"x": 2}), ([], {"x": 3}), (["a", "a"], {"x": 0})]).rooms,
                         [([], [("x", 1)]), (["a"], [("x", 0)])])

    def test_steps_to_the_same_room_are_left_out(self):
        keeper = Keeper([([], {"a": 0, "b": 1}), (["c"], {"a": 0, "b": 1})])
        self.assertEqual(keeper.rooms, [([], [("b", 1)]), (["c"], [("a", 0)])])
        self.assertEqual(keeper, Keeper([([], {"b": 1}), (["c"], {"a": 0, "x": 1})]))

    def test_numbers_as_first_reached(self):
        keeper = Keeper([([], {"b": 1, "a": 2}), (["x"], {}), (["y"], {"a": 3}), (["z"], {"a": 0})])
        self.assertEqual(keeper.rooms, [([], [("a", 1), ("b", 2)]), (["y"], [("a", 3)]), (["x"], []),
                                        (["z"], [("a", 0)])])

    def test_plain(self):
        numbers = Numbers(31)
        for at in range(150):
            events = ["a", "b"] if at % 3 else ["a", "b", "c"]
            rooms = some_rooms(numbers, ["a", "x"], events, 1 + at % 5)
            keeper = Keeper(rooms)
            self.assertEqual(keeper.rooms, least_rooms(rooms, events), rooms)
            self.assertEqual(len(keeper), len(keeper.rooms))
            self.assertEqual(Keeper(back(keeper)), keeper)
            for view in lists_up_to(events + ["w"], 3):
                self.assertEqual(keeper.blocked_after(list(view)), blocked_at(rooms, view))

    def test_six_rooms_and_eight_events(self):
        events = ["a", "b", "c", "d", "e", "f", "g", "h"]
        rooms = [(events[room:], {event: (room + at) % 6 for at, event in enumerate(events)}) for room in range(6)]
        keeper = Keeper(rooms)
        self.assertEqual(len(keeper), 6)
        self.assertEqual(keeper.rooms[0], (events, [("b", 1), ("c", 2), ("d", 3), ("e", 4), ("f", 5), ("h", 1)]))
        self.assertEqual(keeper.blocked_after(["f", "h", "A", ""]), events)
        self.assertEqual(keeper.blocked_after(["f"]), events[5:])

    def test_strings_that_are_no_names_are_not_seen(self):
        keeper = Keeper([([], {"a": 1}), (["a"], {"a": 0})])
        self.assertEqual(keeper.blocked_after(BAD_NAMES + ["a"] + BAD_NAMES), ["a"])

    def test_errors(self):
        for name in BAD_NAMES:
            self.assertEqual(raised(self, InvalidName, Keeper, [([], {}), (["a", name, "A"], {"": 9})]), name)
            self.assertEqual(raised(self, InvalidName, Keeper, [([], {}), (["a"], {name: 9})]), name)
        self.assertEqual(raised(self, InvalidStep, Keeper, [([], {"a": 0}), ([], {"a": 0, "b": 2})]), (1, "b"))
        self.assertEqual(raised(self, InvalidStep, Keeper, [([], {"a": -1})]), (0, "a"))

    def test_errors_in_order(self):
        self.assertEqual(raised(self, InvalidStep, Keeper, [([], {"b": 9, "a": 9}), (["A"], {})]), (0, "a"))
        self.assertEqual(raised(self, InvalidName, Keeper, [(["B", "A"], {"a": 9, "C": 0})]), "B")
        self.assertEqual(raised(self, InvalidName, Keeper, [([], {"a": 9, "C": 9, "B": 9})]), "B")
        self.assertEqual(raised(self, InvalidStep, Keeper, [([], {"a": 9, "b9": 0})]), (0, "a"))
        self.assertEqual(raised(self, InvalidName, Keeper, [([], {"c": 9, "b9": 0})]), "b9")


class Equality(unittest.TestCase):
    def test_plain(self):
        numbers = Numbers(32)
        equal = 0
        for _ in range(400):
            one, other = [some_rooms(numbers, ["a"], ["a", "b"], 1 + numbers.below(3)) for _ in range(2)]
            same = all(blocked_at(one, view) == blocked_at(other, view) for view in lists_up_to(["a", "b"], 5))
            self.assertIs(Keeper(one) == Keeper(other), same, (one, other))
            self.assertIs(Keeper(one) != Keeper(other), not same, (one, other))
            equal += same
        self.assertTrue(20 < equal < 380)

    def test_other_things(self):
        keeper = Keeper([([], {})])
        for thing in (None, 1, "x", [], [([], [])], Machine([{}], []), mock.ANY, Keeper):
            self.assertIs(keeper == thing, False)
            self.assertIs(keeper != thing, True)


class Joining(unittest.TestCase):
    def test_plain(self):
        numbers = Numbers(33)
        for _ in range(60):
            one = some_rooms(numbers, ["a", "x"], ["a", "b"], 1 + numbers.below(3))
            other = some_rooms(numbers, ["a", "y"], ["b", "c"], 1 + numbers.below(3))
            joined = Keeper(one) | Keeper(other)
            self.assertEqual(joined, Keeper(other) | Keeper(one))
            for view in lists_up_to(["a", "b", "c"], 5):
                self.assertEqual(joined.blocked_after(list(view)),
                                 sorted(set(blocked_at(one, view)) | set(blocked_at(other, view))), (one, other))
            if len(joined) < 6:
                self.assertEqual(joined.rooms, least_rooms(back(joined), ["a", "b", "c"]))

    def test_laws(self):
        numbers = Numbers(34)
        nothing = Keeper([([], {})])
        for _ in range(40):
            one, two, three = [Keeper(some_rooms(numbers, ["a", "b", "x"], ["a", "b", "c"], 4)) for _ in range(3)]
            self.assertEqual(one | one, one)
            self.assertEqual(one | nothing, one)
            self.assertEqual((one | two) | three, one | (two | three))
            self.assertEqual((one | two) | one, one | two)


class Passing(unittest.TestCase):
    def test_passes_and_passed(self):
        numbers = Numbers(41)
        for at in range(80):
            case = Case(numbers, ("a", "b", "c") if at % 4 == 0 else ("a", "b"), (3, 2, 3))
            machine = passed(case.task, case.keepers[0])
            for run in lists_up_to(events_in(case.plant), 4 if at % 4 == 0 else 6):
                expected = case.watches[0].passes(run)
                self.assertIs(machine.has(list(run)), expected, str(case))
                self.assertIs(machine.completes(list(run)), expected and is_complete(case.plant, run), str(case))
                if is_run(case.plant, run):
                    self.assertIs(passes(case.task, case.keepers[0], list(run)), expected, str(case))

    def test_only_visible_events_are_seen(self):
        keeper = Keeper([([], {"fill": 1}), (["run"], {})])
        task = Task(PLANT, RULE, ["run"], ["fill"])
        self.assertIs(passes(task, keeper, ["fill", "run"]), False)
        self.assertIs(passes(task.with_visible([]), keeper, ["fill", "run"]), True)
        self.assertEqual(passed(task.with_visible([]), keeper), PLANT)

    def test_an_event_is_blocked_after_the_view_before_it(self):
        keeper = Keeper([([], {"fill": 1}), (["fill"], {})])
        task = Task(PLANT, RULE, ["fill"], ["fill"])
        self.assertIs(passes(task, keeper, ["fill", "run", "stop"]), True)
        self.assertIs(passes(task, keeper, ["fill", "run", "stop", "fill"]), False)

    def test_not_blockable(self):
        task = Task(PLANT, RULE, ["run"], ["fill"])
        for rooms, event in [([(["leak"], {})], "leak"), ([(["run"], {"x": 1}), (["stop", "b"], {})], "b"),
                             ([(["stop"], {"x": 1}), (["drain", "run"], {})], "drain")]:
            keeper = Keeper(rooms)
            self.assertEqual(raised(self, NotBlockable, passes, task, keeper, ["nothing"]), event)
            self.assertEqual(raised(self, NotBlockable, passed, task, keeper), event)
            for goal in GOALS:
                self.assertEqual(raised(self, NotBlockable, first_fault, task, keeper, goal), event)
            fine, other = Keeper([(["run"], {})]), Keeper([(["a"], {})])
            self.assertEqual(raised(self, NotBlockable, first_parting, task, keeper, other), event)
            self.assertEqual(raised(self, NotBlockable, first_parting, task, fine, keeper), event)
            self.assertEqual(raised(self, NotBlockable, first_parting, task, other, keeper), "a")

    def test_least_rooms_only(self):
        task = Task(PLANT, RULE, ["run"], ["fill"])
        keeper = Keeper([(["run"], {}), (["leak"], {})])
        self.assertEqual(passed(task, keeper).events, ["drain", "fill", "leak"])

    def test_rooms_that_no_view_reaches_count(self):
        task = Task(PLANT, RULE, ["run"], [])
        keeper = Keeper([(["run"], {"zzz": 1}), (["leak"], {})])
        self.assertEqual(raised(self, NotBlockable, passed, task, keeper), "leak")

    def test_not_possible(self):
        task = Task(PLANT, RULE, ["fill", "run"], ["fill"])
        shut = Keeper([(["fill", "run"], {})])
        self.assertEqual(raised(self, NotPossible, passes, task, shut, ["fill", "run", "run"]), 2)
        self.assertEqual(raised(self, NotPossible, passes, task, shut, ["run"]), 0)
        for name in BAD_NAMES:
            self.assertEqual(raised(self, NotPossible, passes, task, shut, ["fill", name]), 1)
        self.assertIs(passes(task, shut, ["fill", "run"]), False)
        self.assertIs(passes(task, shut, []), True)


class Faults(unittest.TestCase):
    def test_two_states_and_rooms(self):
        """No shorter fault than eight events is missed: there are eight places of plant, rule and keeper at most."""
        numbers = Numbers(51)
        found = {}
        for _ in range(70):
            case = Case(numbers)
            for goal in GOALS:
                expected = case.watches[0].first_fault(goal, 8)
                self.assertEqual(first_fault(case.task, case.keepers[0], goal), expected, (goal, str(case)))
                length = None if expected is None else min(len(expected), 2)
                found[(goal, length)] = found.get((goal, length), 0) + 1
        for goal in GOALS:
            self.assertGreater(found[(goal, None)], 3)
            self.assertGreater(found[(goal, 1)], 3)
            self.assertGreater(found.get((goal, 2), 0), 1)

    def test_larger_cases(self):
        numbers = Numbers(52)
        for at in range(60):
            case = Case(numbers, ("a", "b", "c"), (3, 2, 3), missing=3 + at % 4)
            for goal in GOALS:
                told = first_fault(case.task, case.keepers[0], goal)
                expected = case.watches[0].first_fault(goal, 4)
                if expected is None and told is not None:
                    self.assertGreater(len(told), 4, (goal, str(case)))
                    self.assertTrue(case.watches[0].is_fault(goal, tuple(told)), (goal, str(case)))
                else:
                    self.assertEqual(told, expected, (goal, str(case)))

    def test_the_goal_that_is_meant_if_none_is_named(self):
        numbers = Numbers(53)
        for _ in range(30):
            case = Case(numbers)
            self.assertEqual(first_fault(case.task, case.keepers[0]),
                             first_fault(case.task, case.keepers[0], "finishing"))

    def test_the_empty_run(self):
        stop = Task(Machine([{}], []), RULE, [], [])
        done = Task(Machine([{}], [0]), RULE, [], [])
        idle = Keeper([([], {})])
        self.assertEqual([first_fault(stop, idle, goal) for goal in GOALS], [None, None, [], []])
        self.assertEqual([first_fault(done, idle, goal) for goal in GOALS], [None, None, None, None])

    def test_runs_that_are_not_allowed_count_as_longer_and_complete(self):
        """After `a` only `b` can be done, which breaks the rule and completes the run."""
        plant = Machine([{"a": 1}, {"b": 2}, {}], [2])
        task = Task(plant, Machine([{"a": 1}, {}], []), ["b"], [])
        self.assertEqual([first_fault(task, Keeper([([], {})]), goal) for goal in GOALS], [["a", "b"]] * 4)
        self.assertEqual([first_fault(task, Keeper([(["b"], {})]), goal) for goal in GOALS], [None, None, ["a"], []])

    def test_running_for_ever_is_steady_but_not_finishing(self):
        task = Task(Machine([{"a": 0, "b": 1}, {}], [1]), Machine([{"a": 0, "b": 0}], []), ["b"], [])
        shut = Keeper([(["b"], {})])
        self.assertEqual([first_fault(task, shut, goal) for goal in GOALS], [["b"], None, None, []])

    def test_an_early_fault_of_another_kind_comes_first(self):
        plant = Machine([{"a": 1, "b": 2}, {"a": 3}, {}, {}], [3])
        task = Task(plant, Machine([{"a": 1, "b": 0}, {}], []), [], [])
        idle = Keeper([([], {})])
        self.assertEqual([first_fault(task, idle, goal) for goal in GOALS],
                         [["a", "a"], ["a", "a"], ["b"], ["b"]])

    def test_unknown_goals(self):
        task = Task(PLANT, RULE, ["run"], ["fill"])
        for goal in ["", "Exact", "done", "safe ", "finish"]:
            self.assertEqual(raised(self, UnknownGoal, first_fault, task, Keeper([(["leak"], {})]), goal), goal)


class Partings(unittest.TestCase):
    def test_two_states_and_rooms(self):
        numbers = Numbers(61)
        found = {}
        for _ in range(200):
            case = Case(numbers)
            expected = next((list(run) for run in lists_up_to(events_in(case.plant), 8)
                             if case.watches[0].passes(run) != case.watches[1].passes(run)), None)
            self.assertEqual(first_parting(case.task, *case.keepers), expected, str(case))
            self.assertEqual(first_parting(case.task, *case.keepers[::-1]), expected, str(case))
            length = None if expected is None else min(len(expected), 2)
            found[length] = found.get(length, 0) + 1
        self.assertTrue(all(found[length] > 3 for length in (None, 1, 2)), found)

    def test_keepers_that_differ_where_nothing_shows_it(self):
        plant = Machine([{"a": 1}, {}], [])
        task = Task(plant, RULE, ["a"], ["a"])
        self.assertEqual(first_parting(task, Keeper([([], {})]), Keeper([([], {"a": 1}), (["a"], {})])), None)
        self.assertEqual(first_parting(task, Keeper([([], {})]), Keeper([(["a"], {})])), ["a"])


if __name__ == "__main__":
    unittest.main()

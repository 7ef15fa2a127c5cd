"""Points [1] and [2] and the rules of the interface that hold for every name."""

import copy
import inspect
import os
import unittest

from seenbars import errors, keepers, machines, tasks
from seenbars.errors import GateError
from seenbars.keepers import Keeper, first_fault, first_parting, passed, passes
from seenbars.machines import Machine, first_unlike, seen_machine
from seenbars.tasks import Task

STATES = [{"fill": 1}, {"run": 2, "leak": 3}, {"stop": 0}, {"run": 4, "drain": 0}, {"stop": 0}]
RULE_STATES = [{"fill": 1}, {"run": 2, "leak": 3}, {"stop": 0}, {"drain": 0}]
ROOMS = [(["run"], {"fill": 1}), ([], {"drain": 0, "fill": 1})]


def things():
    """New objects of each class, made of new lists."""
    plant, rule = Machine(copy.deepcopy(STATES), [0, 0]), Machine(copy.deepcopy(RULE_STATES), [])
    task = Task(plant, rule, ["run"], ["fill", "drain"])
    return {"plant": plant, "rule": rule, "task": task, "half": Keeper(copy.deepcopy(ROOMS)),
            "shut": Keeper([(["run"], {})])}


def calls(t):
    """Each call that answers: a name, the function and its arguments by name."""
    run = ["fill", "leak", "drain"]
    return [
        ("has", t["plant"].has, {"run": run}),
        ("completes", t["plant"].completes, {"run": run}),
        ("state_after", t["plant"].state_after, {"run": run}),
        ("within", t["rule"].within, {"other": t["plant"]}),
        ("first_unlike", first_unlike, {"one": t["plant"], "other": t["rule"]}),
        ("seen_machine", seen_machine, {"machine": t["plant"], "events": ["run", "fill", "run"]}),
        ("view_of", t["task"].view_of, {"events": run}),
        ("position_after", t["task"].position_after, {"run": run}),
        ("steps_at", t["task"].steps_at, {"position": (2, 2)}),
        ("with_blockable", t["task"].with_blockable, {"events": ["stop", "drain", "stop"]}),
        ("with_visible", t["task"].with_visible, {"events": ["stop", "drain", "stop"]}),
        ("blocked_after", t["half"].blocked_after, {"view": run}),
        ("passes", passes, {"task": t["task"], "keeper": t["half"], "run": run}),
        ("passed", passed, {"task": t["task"], "keeper": t["half"]}),
        ("first_fault", first_fault, {"task": t["task"], "keeper": t["half"], "goal": "exact"}),
        ("first_parting", first_parting, {"task": t["task"], "one": t["shut"], "other": t["half"]}),
        ("Machine", Machine, {"states": copy.deepcopy(STATES), "finals": [0, 0]}),
        ("Task", Task, {"plant": t["plant"], "rule": t["rule"], "blockable": ["run", "fill", "run"],
                        "visible": ["stop", "fill", "stop"]}),
        ("Keeper", Keeper, {"rooms": copy.deepcopy(ROOMS)}),
    ]


def told(thing):
    """All that an object or a value tells, as plain values."""
    if isinstance(thing, Machine):
        return ("machine", thing.states, thing.finals, thing.events, len(thing))
    if isinstance(thing, Task):
        return ("task", told(thing.plant), told(thing.rule), thing.blockable, thing.visible, told(thing.allowed),
                thing.positions, [thing.steps_at(position) for position in thing.positions])
    if isinstance(thing, Keeper):
        return ("keeper", thing.rooms, len(thing))
    return thing


def lists_in(value):
    """All lists of a returned value, however deep."""
    if isinstance(value, list):
        yield value
    if isinstance(value, (list, tuple)):
        for part in value:
            yield from lists_in(part)


def spoil(value):
    """Changes everything that can be changed in a value."""
    if isinstance(value, dict):
        value.clear()
        value["spoilt"] = 0
    if isinstance(value, (list, tuple)):
        for part in value:
            spoil(part)
    if isinstance(value, list):
        value.clear()
        value.append("spoilt")


class Arguments(unittest.TestCase):
    def test_by_position_and_by_name(self):
        for name, call, arguments in calls(things()):
            self.assertEqual(list(inspect.signature(call).parameters), list(arguments), name)
            self.assertEqual(told(call(*arguments.values())), told(call(**arguments)), name)

    def test_stay_as_they_were(self):
        for name, call, arguments in calls(things()):
            before = copy.deepcopy([told(argument) for argument in arguments.values()])
            call(**arguments)
            self.assertEqual([told(argument) for argument in arguments.values()], before, name)

    def test_stay_as_they_were_in_calls_that_raise(self):
        t = things()
        wrong = [(Machine, [[{"b": 0, "a": 4}, {"A": 0}], [9, 9]]), (Machine, [[{"b": 0}], [0, 9, 0]]),
                 (t["plant"].state_after, [["fill", "fill"]]), (seen_machine, [t["plant"], ["run", "A"]]),
                 (Task, [t["plant"], t["rule"], ["run", "run"], ["A"]]),
                 (Task, [t["plant"], t["rule"], ["run", "other", "run"], ["fill"]]),
                 (t["task"].position_after, [["fill", "leak", "run"]]), (t["task"].steps_at, [(0, 3)]),
                 (t["task"].with_blockable, [["run", "other"]]), (t["task"].with_visible, [["run", "A"]]),
                 (Keeper, [[(["b", "a", "b"], {"b": 0, "a": 1})]]), (Keeper, [[(["b", "A"], {})]]),
                 (passes, [t["task"], Keeper([(["leak"], {})]), []]), (passes, [t["task"], t["half"], ["run"]]),
                 (first_fault, [t["task"], t["half"], "none"]),
                 (first_parting, [t["task"], t["half"], Keeper([(["leak"], {})])])]
        for call, arguments in wrong:
            before = copy.deepcopy([told(argument) for argument in arguments])
            answers = {name: copy.deepcopy(told(thing)) for name, thing in t.items()}
            self.assertRaises(GateError, call, *arguments)
            self.assertEqual([told(argument) for argument in arguments], before)
            self.assertEqual({name: told(thing) for name, thing in t.items()}, answers)

    def test_later_changes_of_what_was_passed(self):
        states, finals, blockable, visible, rooms = copy.deepcopy(STATES), [0], ["run"], ["fill"], copy.deepcopy(ROOMS)
        plant = Machine(states, finals)
        task = Task(plant, Machine(RULE_STATES, []), blockable, visible)
        other = task.with_blockable(visible).with_visible(blockable)
        keeper = Keeper(rooms)
        before = copy.deepcopy([told(thing) for thing in (plant, task, other, keeper)])
        for given in (states, finals, blockable, visible, rooms):
            spoil(given)
        self.assertEqual([told(thing) for thing in (plant, task, other, keeper)], before)

    def test_rows_that_are_one_dict(self):
        steps, blocked = {"a": 1}, ["a"]
        self.assertEqual(Machine([steps, steps], [1]).states, [[("a", 1)], [("a", 1)]])
        self.assertEqual(Keeper([(blocked, steps), (blocked, steps)]).rooms, [(["a"], [])])


class Answers(unittest.TestCase):
    def values(self, t):
        """Each returned value that has lists."""
        found = [(name, call(**arguments)) for name, call, arguments in calls(t)]
        for at, (name, value) in enumerate(list(found) + list(t.items())):
            for part in ("states", "finals", "events", "blockable", "visible", "positions", "rooms"):
                if hasattr(value, part):
                    found.append((name + str(at) + part, getattr(value, part)))
        return [(name, value) for name, value in found if isinstance(value, (list, tuple))]

    def test_no_list_stands_in_two_places(self):
        t = things()
        first, second = self.values(t), self.values(t)
        self.assertGreater(len(first), 30)
        seen = {}
        for name, value in first + second:
            for part in lists_in(value):
                self.assertNotIn(id(part), seen, name)
                seen[id(part)] = part

    def test_later_changes_of_what_was_returned(self):
        t = things()
        before = copy.deepcopy([told(value) for value in t.values()])
        answers = copy.deepcopy(self.values(t))
        for _, value in self.values(t):
            spoil(value)
        self.assertEqual([told(value) for value in t.values()], before)
        self.assertEqual(self.values(t), answers)

    def test_empty_rows_are_lists_of_their_own(self):
        rooms = Keeper([([], {"a": 1}), (["a"], {"a": 2}), ([], {"b": 0, "a": 2})]).rooms
        states = Machine([{"a": 1, "b": 2}, {}, {}], [1]).states
        found = list(lists_in(rooms)) + list(lists_in(states))
        self.assertEqual(len({id(part) for part in found}), len(found))

    def test_kinds_of_values(self):
        t = things()
        self.assertIs(type(t["plant"].state_after(["fill"])), int)
        self.assertIs(type(t["task"].position_after(["fill"])), tuple)
        for machine in (t["plant"], t["plant"] & t["rule"], t["plant"] | t["rule"], passed(t["task"], t["half"])):
            self.assertIs(type(machine), Machine)
            for row in machine.states:
                self.assertIs(type(row), list)
                for step in row:
                    self.assertEqual([type(part) for part in step], [str, int])
            self.assertTrue(all(type(state) is int for state in machine.finals))
        for blocked, steps in t["half"].rooms:
            self.assertEqual([type(blocked), type(steps)], [list, list])
            self.assertTrue(all(type(step) is tuple for step in steps))
        self.assertIs(type(t["half"] | t["shut"]), Keeper)
        self.assertIs(type(t["task"].with_visible([])), Task)


class Places(unittest.TestCase):
    """Where the names of the interface are defined."""

    def test_functions_and_classes(self):
        listed = {machines: ["Machine", "first_unlike", "seen_machine"], tasks: ["Task"],
                  keepers: ["Keeper", "passes", "passed", "first_fault", "first_parting"], errors: ["GateError"]}
        for module, names in listed.items():
            for name in names:
                self.assertEqual(getattr(module, name).__module__, module.__name__)

    def test_methods_properties_and_operators(self):
        listed = {
            Machine: (["__init__", "__len__", "__eq__", "__and__", "__or__", "__contains__", "has", "completes",
                       "state_after", "within"], ["states", "finals", "events"]),
            Task: (["__init__", "__eq__", "view_of", "position_after", "steps_at", "with_blockable", "with_visible"],
                   ["plant", "rule", "blockable", "visible", "allowed", "positions"]),
            Keeper: (["__init__", "__len__", "__eq__", "__or__", "blocked_after"], ["rooms"]),
        }
        for kind, (methods, properties) in listed.items():
            for name in methods:
                self.assertTrue(inspect.isfunction(vars(kind)[name]), name)
            for name in properties:
                self.assertIsInstance(vars(kind)[name], property, name)

    def test_the_package_is_one_folder_of_python_files(self):
        folder = os.path.dirname(machines.__file__)
        self.assertEqual(os.path.basename(folder), "seenbars")
        for name in os.listdir(folder):
            self.assertTrue(name.endswith(".py") or name == "__pycache__", name)


if __name__ == "__main__":
    unittest.main()

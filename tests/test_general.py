"""Points [1] and [2] and the rules of the interface that hold for every name."""

import copy
import inspect
import os
import unittest

from seenbars import (beliefs, errors, exact, finishing, greatest, guards, keepers, least, machines, readings, tasks,
                      texts)
from seenbars.errors import GateError
from seenbars.exact import Team
from seenbars.guards import Guard, SteadyGuard
from seenbars.keepers import Keeper, first_fault, first_parting, passed, passes
from seenbars.machines import Machine, first_unlike, seen_machine
from seenbars.tasks import Task

STATES = [{"fill": 1}, {"run": 2, "leak": 3}, {"stop": 0}, {"run": 4, "drain": 0}, {"stop": 0}]
RULE_STATES = [{"fill": 1}, {"run": 2, "leak": 3}, {"stop": 0}, {"drain": 0}]
ROOMS = [(["run"], {"fill": 1}), ([], {"drain": 0, "fill": 1})]
MODULES = [beliefs, errors, exact, finishing, greatest, guards, keepers, least, machines, readings, tasks, texts]
LISTED = {machines: ["Machine", "first_unlike", "seen_machine"], tasks: ["Task"],
          keepers: ["Keeper", "passes", "passed", "first_fault", "first_parting"], errors: ["GateError"],
          exact: ["Team", "passed_by"],
          greatest: ["kept", "judge_kept", "removal", "judge_removal", "greatest_passed", "greatest_keeper"],
          beliefs: ["spread", "is_safe_choice", "is_steady_choice", "belief_after", "menu", "judge_menu",
                    "steady_keeper", "ranks", "judge_ranks"],
          finishing: ["book", "judge_book", "can_finish", "losses", "judge_losses", "greatest_seen",
                      "greatest_seen_keeper"],
          least: ["is_enough", "least_visible", "least_blockable"], guards: ["Guard", "SteadyGuard"],
          texts: ["show_machine", "show_keeper", "show_task"],
          readings: ["read_machine", "read_keeper", "read_task"]}
METHODS = {
    Machine: (["__init__", "__len__", "__eq__", "__and__", "__or__", "__contains__", "has", "completes", "state_after",
               "within"], ["states", "finals", "events"]),
    Task: (["__init__", "__eq__", "view_of", "position_after", "steps_at", "with_blockable", "with_visible"],
           ["plant", "rule", "blockable", "visible", "allowed", "positions"]),
    Keeper: (["__init__", "__len__", "__eq__", "__or__", "blocked_after"], ["rooms"]),
    Team: (["__init__", "__len__", "__eq__", "task_of", "find_fault", "make_keepers"], ["plant", "rule", "members"]),
    Guard: (["__init__", "__len__", "__eq__", "__call__", "able", "undo", "attempt"],
            ["run", "view", "state", "blocked", "is_complete", "is_allowed"]),
    SteadyGuard: (["__init__", "__len__", "__eq__", "__call__", "able", "undo", "choose"],
                  ["run", "view", "state", "blocked", "is_complete", "is_allowed", "belief", "choices"]),
}


def things():
    """New objects of each class, made of new lists."""
    plant, rule = Machine(copy.deepcopy(STATES), [0, 0]), Machine(copy.deepcopy(RULE_STATES), [])
    task = Task(plant, rule, ["run"], ["fill", "drain"])
    free, sharp = task.with_blockable([]), task.with_visible(["run", "fill", "leak"])
    guard, hand = Guard(task, Keeper([(["run"], {"fill": 1}), ([], {"drain": 0})])), SteadyGuard(task)
    for live in (guard, hand):
        live("fill")
        live("leak")
        live("drain")
    return {"guard": guard, "hand": hand, "plant": plant, "rule": rule, "task": task, "free": free, "sharp": sharp,
            "half": Keeper(copy.deepcopy(ROOMS)), "shut": Keeper([(["run"], {})]),
            "small": Task(Machine([{"fill": 1}, {"run": 0, "leak": 2}, {"run": 0, "drain": 0}], [0]),
                          Machine([{"fill": 1}, {"run": 0, "leak": 2}, {"drain": 0}], []), ["run"], []),
            "team": Team(plant, rule, [(["run"], ["fill", "leak"]), ([], ["drain"])]),
            "blind": Team(plant, rule, [(["run"], ["fill"]), (["leak"], ["drain"]), (["run"], [])])}


def calls(t):
    """Each call that answers: a name, the function and its arguments by name."""
    run = ["fill", "leak", "drain"]
    return [
        ("has", t["plant"].has, {"run": run}),
        ("completes", t["plant"].completes, {"run": run}),
        ("state_after", t["plant"].state_after, {"run": run}),
        ("within", t["rule"].within, {"other": t["plant"]}),
        ("first_unlike", first_unlike, {"one": t["plant"], "other": t["rule"]}),
        ("seen_machine", seen_machine, {"machine": t["plant"], "events": ["run", "fill", "run"]}),
        ("view_of", t["task"].view_of, {"events": run}),
        ("position_after", t["task"].position_after, {"run": run}),
        ("steps_at", t["task"].steps_at, {"position": (2, 2)}),
        ("with_blockable", t["task"].with_blockable, {"events": ["stop", "drain", "stop"]}),
        ("with_visible", t["task"].with_visible, {"events": ["stop", "drain", "stop"]}),
        ("blocked_after", t["half"].blocked_after, {"view": run}),
        ("passes", passes, {"task": t["task"], "keeper": t["half"], "run": run}),
        ("passed", passed, {"task": t["task"], "keeper": t["half"]}),
        ("first_fault", first_fault, {"task": t["task"], "keeper": t["half"], "goal": "exact"}),
        ("first_parting", first_parting, {"task": t["task"], "one": t["shut"], "other": t["half"]}),
        ("task_of", t["team"].task_of, {"index": 1}),
        ("alone", Team.alone, {"task": t["task"]}),
        ("find_fault", t["blind"].find_fault, {}),
        ("make_keepers", t["team"].make_keepers, {}),
        ("passed_by", exact.passed_by, {"team": t["team"], "keepers": [t["half"], Keeper([([], {})])]}),
        ("kept", greatest.kept, {"task": t["task"]}),
        ("judge_kept", greatest.judge_kept, {"task": t["task"], "told": [(0, 0), (2, 2), (1, 1), (0, 0)]}),
        ("removal", greatest.removal, {"task": t["free"]}),
        ("judge_removal", greatest.judge_removal,
         {"task": t["free"], "told": [((2, 2), "run"), ((1, 1), "leak"), ((0, 0), "fill")]}),
        ("greatest_passed", greatest.greatest_passed, {"task": t["task"]}),
        ("greatest_keeper", greatest.greatest_keeper, {"task": t["task"]}),
        ("spread", beliefs.spread, {"task": t["task"], "belief": [(1, 1)], "choice": ["run"]}),
        ("is_safe_choice", beliefs.is_safe_choice, {"task": t["task"], "belief": [(1, 1)], "choice": ["run"]}),
        ("is_steady_choice", beliefs.is_steady_choice, {"task": t["task"], "belief": [(1, 1)], "choice": []}),
        ("belief_after", beliefs.belief_after,
         {"task": t["task"], "belief": [(1, 1)], "choice": ["run"], "event": "drain"}),
        ("menu", beliefs.menu, {"task": t["task"]}),
        ("judge_menu", beliefs.judge_menu,
         {"task": t["task"], "told": [([(1, 1)], [["run"]]), ([(0, 0)], [["run"], []])]}),
        ("steady_keeper", beliefs.steady_keeper, {"task": t["task"]}),
        ("ranks", beliefs.ranks, {"task": t["free"]}),
        ("judge_ranks", beliefs.judge_ranks, {"task": t["free"], "told": [([(0, 0)], 1), ([(1, 1)], 0)]}),
        ("book", finishing.book, {"task": t["task"]}),
        ("judge_book", finishing.judge_book,
         {"task": t["task"], "told": [([(1, 1)], [["run"]]), ([(0, 0)], [["run"], []])]}),
        ("can_finish", finishing.can_finish, {"task": t["task"]}),
        ("losses", finishing.losses, {"task": t["free"]}),
        ("judge_losses", finishing.judge_losses,
         {"task": t["free"], "told": [([(1, 1)], [], (2, 2)), ([(0, 0)], [], "fill")]}),
        ("greatest_seen", finishing.greatest_seen, {"task": t["sharp"]}),
        ("greatest_seen_keeper", finishing.greatest_seen_keeper, {"task": t["sharp"]}),
        ("is_enough", least.is_enough, {"task": t["task"], "goal": "exact"}),
        ("least_visible", least.least_visible, {"task": t["small"], "goal": "exact"}),
        ("least_blockable", least.least_blockable, {"task": t["small"], "goal": "steady"}),
        ("show_machine", texts.show_machine, {"machine": t["plant"]}),
        ("show_keeper", texts.show_keeper, {"keeper": t["half"]}),
        ("show_task", texts.show_task, {"task": t["task"]}),
        ("read_machine", readings.read_machine, {"text": texts.show_machine(t["plant"])}),
        ("read_keeper", readings.read_keeper, {"text": texts.show_keeper(t["half"])}),
        ("read_task", readings.read_task, {"text": texts.show_task(t["task"])}),
        ("able", t["guard"].able, {}),
        ("attempt", t["guard"].attempt, {"events": ["fill", "leak", "drain"]}),
        ("able", t["hand"].able, {}),
        ("Guard", Guard, {"task": t["task"], "keeper": t["half"]}),
        ("SteadyGuard", SteadyGuard, {"task": t["task"]}),
        ("Team", Team, {"plant": t["plant"], "rule": t["rule"],
                        "members": [(["run", "leak", "run"], ["stop"]), ([], ["fill", "drain"])]}),
        ("Machine", Machine, {"states": copy.deepcopy(STATES), "finals": [0, 0]}),
        ("Task", Task, {"plant": t["plant"], "rule": t["rule"], "blockable": ["run", "fill", "run"],
                        "visible": ["stop", "fill", "stop"]}),
        ("Keeper", Keeper, {"rooms": copy.deepcopy(ROOMS)}),
    ]


def deeds(guard, hand):
    """Each call that changes a guard: a name, the guard, what is called and its arguments by name."""
    return [("__call__", guard, guard, {"event": "fill"}), ("__call__", hand, hand, {"event": "fill"}),
            ("undo", guard, guard.undo, {}), ("undo", hand, hand.undo, {}),
            ("choose", hand, hand.choose, {"choice": ["run"]})]


def told(thing):
    """All that an object or a value tells, as plain values."""
    if isinstance(thing, Machine):
        return ("machine", thing.states, thing.finals, thing.events, len(thing))
    if isinstance(thing, Task):
        return ("task", told(thing.plant), told(thing.rule), thing.blockable, thing.visible, told(thing.allowed),
                thing.positions, [thing.steps_at(position) for position in thing.positions])
    if isinstance(thing, Keeper):
        return ("keeper", thing.rooms, len(thing))
    if isinstance(thing, Team):
        return ("team", told(thing.plant), told(thing.rule), thing.members, len(thing), thing.find_fault(),
                [told(thing.task_of(index)) for index in range(len(thing))])
    if isinstance(thing, (Guard, SteadyGuard)):
        more = [thing.belief, thing.choices] if isinstance(thing, SteadyGuard) else []
        return ["guard", thing.run, thing.view, thing.state, thing.blocked, thing.is_complete, thing.is_allowed,
                thing.able(), len(thing)] + more
    if isinstance(thing, (list, tuple)) and any(isinstance(part, Keeper) for part in thing):
        return [told(part) for part in thing]
    return thing


def lists_in(value):
    """All lists of a returned value, however deep."""
    if isinstance(value, list):
        yield value
    if isinstance(value, (list, tuple)):
        for part in value:
            yield from lists_in(part)


def spoil(value):
    """Changes everything that can be changed in a value."""
    if isinstance(value, dict):
        value.clear()
        value["spoilt"] = 0
    if isinstance(value, (list, tuple)):
        for part in value:
            spoil(part)
    if isinstance(value, list):
        value.clear()
        value.append("spoilt")


class Arguments(unittest.TestCase):
    def test_by_position_and_by_name(self):
        for name, call, arguments in calls(things()):
            self.assertEqual(list(inspect.signature(call).parameters), list(arguments), name)
            answer = told(call(*arguments.values()))
            self.assertEqual(told(call(**arguments)), answer, name)
            self.assertEqual(told(call(**dict(list(arguments.items())[::-1]))), answer, name)

    def test_of_calls_that_change_a_guard(self):
        for at in range(5):
            name, one, call, arguments = deeds(things()["guard"], things()["hand"])[at]
            _, other, same, _ = deeds(things()["guard"], things()["hand"])[at]
            self.assertEqual(list(inspect.signature(call).parameters), list(arguments), name)
            given = copy.deepcopy(arguments)
            self.assertEqual(call(*arguments.values()), same(**arguments), name)
            self.assertEqual(arguments, given)
            self.assertTrue(one == other)
            self.assertEqual(told(one), told(other), name)

    def test_stay_as_they_were(self):
        for name, call, arguments in calls(things()):
            before = copy.deepcopy([told(argument) for argument in arguments.values()])
            call(**arguments)
            self.assertEqual([told(argument) for argument in arguments.values()], before, name)

    def test_stay_as_they_were_in_calls_that_raise(self):
        t = things()
        wrong = [(Machine, [[{"b": 0, "a": 4}, {"A": 0}], [9, 9]]), (Machine, [[{"b": 0}], [0, 9, 0]]),
                 (t["plant"].state_after, [["fill", "fill"]]), (seen_machine, [t["plant"], ["run", "A"]]),
                 (Task, [t["plant"], t["rule"], ["run", "run"], ["A"]]),
                 (Task, [t["plant"], t["rule"], ["run", "other", "run"], ["fill"]]),
                 (t["task"].position_after, [["fill", "leak", "stop"]]), (t["task"].steps_at, [(0, 3)]),
                 (t["task"].with_blockable, [["run", "other"]]), (t["task"].with_visible, [["run", "A"]]),
                 (Keeper, [[(["b", "a", "b"], {"b": 0, "a": 1})]]), (Keeper, [[(["b", "A"], {})]]),
                 (passes, [t["task"], Keeper([(["leak"], {})]), []]), (passes, [t["task"], t["half"], ["run"]]),
                 (first_fault, [t["task"], t["half"], "none"]),
                 (first_parting, [t["task"], t["half"], Keeper([(["leak"], {})])]),
                 (Team, [t["plant"], t["rule"], [(["run", "fill", "run"], ["A"]), (["B"], [])]]),
                 (t["blind"].make_keepers, []), (exact.passed_by, [t["team"], [t["half"], t["shut"]]]),
                 (beliefs.spread, [t["task"], [(1, 1), (0, 0)], []]),
                 (beliefs.is_safe_choice, [t["task"], [(1, 1)], ["run", "run"]]),
                 (beliefs.is_steady_choice, [t["task"], [(1, 1)], ["leak", "fill"]]),
                 (beliefs.belief_after, [t["task"], [(1, 1)], ["run"], "leak"]),
                 (finishing.greatest_seen, [t["task"]]), (finishing.greatest_seen_keeper, [t["task"]]),
                 (least.is_enough, [t["task"], "none"]), (least.least_visible, [t["task"], ""]),
                 (least.least_blockable, [t["task"], "Safe"]), (Guard, [t["task"], Keeper([(["leak"], {})])]),
                 (SteadyGuard, [t["free"]]), (t["guard"], ["drain"]), (t["guard"], ["run"]), (t["hand"], ["leak"]),
                 (t["guard"].attempt, [["fill", "leak", "stop"]]), (t["hand"].choose, [["run", "run"]]),
                 (readings.read_machine, ["0: a 1"]), (readings.read_keeper, ["0 [b a]:"]),
                 (readings.read_task, ["plant 0: | rule 0: | blockable a | visible"])]
        for call, arguments in wrong:
            before = copy.deepcopy([told(argument) for argument in arguments])
            answers = {name: copy.deepcopy(told(thing)) for name, thing in t.items()}
            self.assertRaises(GateError, call, *arguments)
            self.assertEqual([told(argument) for argument in arguments], before)
            self.assertEqual({name: told(thing) for name, thing in t.items()}, answers)

    def test_later_changes_of_what_was_passed(self):
        states, finals, blockable, visible, rooms = copy.deepcopy(STATES), [0], ["run"], ["fill"], copy.deepcopy(ROOMS)
        members = [(["run"], ["fill"]), (["leak", "run"], ["drain"])]
        plant = Machine(states, finals)
        task = Task(plant, Machine(RULE_STATES, []), blockable, visible)
        other = task.with_blockable(visible).with_visible(blockable)
        keeper, team = Keeper(rooms), Team(plant, Machine(RULE_STATES, []), members)
        before = copy.deepcopy([told(thing) for thing in (plant, task, other, keeper, team)])
        for given in (states, finals, blockable, visible, rooms, members):
            spoil(given)
        self.assertEqual([told(thing) for thing in (plant, task, other, keeper, team)], before)

    def test_errors_hold_copies(self):
        t = things()
        belief, choice = [(1, 1), (0, 0)], ["run", "run"]
        for error, call, arguments in [(errors.InvalidBelief, beliefs.spread, [t["task"], belief, []]),
                                       (errors.InvalidChoice, t["hand"].choose, [choice]),
                                       (errors.NoGatekeeper, SteadyGuard, [t["free"]]),
                                       (errors.InvalidChoice, beliefs.spread, [t["task"], [(1, 1)], choice]),
                                       (errors.NotExact, t["blind"].make_keepers, [])]:
            with self.assertRaises(error) as caught:
                call(*arguments)
            value = copy.deepcopy(caught.exception.value)
            spoil(belief)
            spoil(choice)
            spoil(t["blind"].find_fault())
            spoil(beliefs.ranks(t["free"]))
            self.assertEqual(caught.exception.value, value)
            belief[:], choice[:] = [(1, 1), (0, 0)], ["run", "run"]

    def test_rows_that_are_one_dict(self):
        steps, blocked = {"a": 1}, ["a"]
        self.assertEqual(Machine([steps, steps], [1]).states, [[("a", 1)], [("a", 1)]])
        self.assertEqual(Keeper([(blocked, steps), (blocked, steps)]).rooms, [(["a"], [])])


class Answers(unittest.TestCase):
    def values(self, t):
        """Each returned value that has lists."""
        found = [(name, call(**arguments)) for name, call, arguments in calls(t)]
        for at, (name, value) in enumerate(list(found) + list(t.items())):
            for part in ("states", "finals", "events", "blockable", "visible", "positions", "rooms", "members", "run",
                         "view", "blocked", "belief", "choices"):
                if hasattr(value, part):
                    found.append((name + str(at) + part, getattr(value, part)))
        return [(name, value) for name, value in found if isinstance(value, (list, tuple))]

    def test_no_list_stands_in_two_places(self):
        t = things()
        first, second = self.values(t), self.values(t)
        self.assertGreater(len(first), 30)
        seen = {}
        for name, value in first + second:
            for part in lists_in(value):
                self.assertNotIn(id(part), seen, name)
                seen[id(part)] = part

    def test_later_changes_of_what_was_returned(self):
        t = things()
        before = copy.deepcopy([told(value) for value in t.values()])
        answers = copy.deepcopy(self.values(t))
        for _, value in self.values(t):
            spoil(value)
        self.assertEqual([told(value) for value in t.values()], before)
        self.assertEqual(self.values(t), answers)

    def test_empty_rows_are_lists_of_their_own(self):
        rooms = Keeper([([], {"a": 1}), (["a"], {"a": 2}), ([], {"b": 0, "a": 2})]).rooms
        states = Machine([{"a": 1, "b": 2}, {}, {}], [1]).states
        found = list(lists_in(rooms)) + list(lists_in(states))
        self.assertEqual(len({id(part) for part in found}), len(found))

    def test_kinds_of_values(self):
        t = things()
        self.assertIs(type(t["plant"].state_after(["fill"])), int)
        self.assertIs(type(t["task"].position_after(["fill"])), tuple)
        for machine in (t["plant"], t["plant"] & t["rule"], t["plant"] | t["rule"], passed(t["task"], t["half"])):
            self.assertIs(type(machine), Machine)
            for row in machine.states:
                self.assertIs(type(row), list)
                for step in row:
                    self.assertEqual([type(part) for part in step], [str, int])
            self.assertTrue(all(type(state) is int for state in machine.finals))
        for blocked, steps in t["half"].rooms:
            self.assertEqual([type(blocked), type(steps)], [list, list])
            self.assertTrue(all(type(step) is tuple for step in steps))
        self.assertIs(type(t["half"] | t["shut"]), Keeper)
        self.assertIs(type(t["task"].with_visible([])), Task)

    def test_kinds_of_certificates(self):
        t = things()
        run, event, alike = t["blind"].find_fault()
        self.assertEqual([type(part) for part in (run, event, alike)], [list, str, list])
        self.assertIs(type(t["blind"].find_fault()), tuple)
        for blockable, visible in t["team"].members:
            self.assertEqual([type(blockable), type(visible)], [list, list])
        for told_list in (beliefs.menu(t["task"]), finishing.book(t["task"])):
            self.assertIs(type(told_list), list)
            for entry in told_list:
                self.assertIs(type(entry), tuple)
                belief, choices = entry
                self.assertEqual({type(part) for part in [belief, choices] + choices}, {list})
                self.assertEqual({type(place) for place in belief}, {tuple})
        for belief, rank in beliefs.ranks(t["free"]):
            self.assertEqual([type(belief), type(rank), type(belief[0])], [list, int, tuple])
        for belief, choice, reason in finishing.losses(t["free"]):
            self.assertEqual([type(belief), type(belief[0])], [list, tuple])
            self.assertIn(type(choice), (list, type(None)))
            self.assertIn(type(reason), (str, tuple))
        for position, reason in greatest.removal(t["free"]):
            self.assertIs(type(position), tuple)
            self.assertIn(type(reason), (str, type(None)))


class Places(unittest.TestCase):
    """Where the names of the interface are defined."""

    def test_functions_and_classes(self):
        self.assertEqual(set(LISTED), set(MODULES))
        for module, names in LISTED.items():
            for name in names:
                self.assertEqual(getattr(module, name).__module__, module.__name__)

    def test_methods_properties_and_operators(self):
        self.assertIsInstance(vars(Team)["alone"], classmethod)
        for kind, (methods, properties) in METHODS.items():
            for name in methods:
                self.assertTrue(inspect.isfunction(vars(kind)[name]), name)
            for name in properties:
                self.assertIsInstance(vars(kind)[name], property, name)

    def test_each_function_class_and_method_is_called(self):
        """Nothing of the interface is left out by `calls`, which looks at arguments by position and by name."""
        t = things()
        known = {name for name, _, _ in calls(t)} | {name for name, _, _, _ in deeds(t["guard"], t["hand"])} | {"GateError"}
        listed = [name for names in LISTED.values() for name in names]
        methods = [name for names, _ in METHODS.values() for name in names if not name.startswith("__")]
        self.assertEqual(sorted({*listed, *methods, "__call__", "alone"} - known), [])

    def test_the_package_is_one_folder_of_python_files(self):
        folder = os.path.dirname(machines.__file__)
        self.assertEqual(os.path.basename(folder), "seenbars")
        for name in os.listdir(folder):
            self.assertTrue(name.endswith(".py") or name == "__pycache__", name)


if __name__ == "__main__":
    unittest.main()

"""The section of guards.py: the class Guard, event by event, and what holds for both classes."""

import inspect
import unittest
from unittest import mock

from seenbars import guards
from seenbars.errors import Blocked, NotBlockable, NothingToUndo, NotPossible
from seenbars.guards import Guard, SteadyGuard
from seenbars.keepers import Keeper, passed, passes
from seenbars.machines import Machine
from seenbars.tasks import Task
from tests.live import PLANT, RULE, STATES, TASK, PlainGuard, live_cases, outcome, some_event, told
from tests.plain import BAD_NAMES, Numbers, is_run, lists_up_to, raised
from tests.searches import PlainTask


class Live(unittest.TestCase):
    def test_plain(self):
        kinds = {}
        for numbers, _, _, guard, plain in live_cases(301, 120):
            for _ in range(40):
                deed = numbers.below(6)
                if deed < 4:
                    event = some_event(numbers, plain, guard)
                    answer = outcome(guard, event)
                    self.assertEqual(answer, plain.call(event), str(plain.plain))
                elif deed == 4:
                    answer = outcome(guard.undo)
                    self.assertEqual(answer, plain.undo())
                else:
                    events = [some_event(numbers, plain, guard) for _ in range(numbers.below(5))]
                    answer = outcome(guard.attempt, events)
                    self.assertEqual(answer, plain.attempt(events), str(plain.plain))
                kind = (deed >= 4) + deed, answer[0] if isinstance(answer, tuple) else type(answer)
                kinds[kind] = kinds.get(kind, 0) + 1
                self.assertEqual(told(guard), plain.told(), str(plain.plain))
        for error in (NotPossible, Blocked, NothingToUndo):
            self.assertGreater(sum(many for (_, kind), many in kinds.items() if kind is error), 30, error)

    def test_at_the_beginning(self):
        guard = Guard(TASK, Keeper([(["run"], {"fill": 1}), ([], {})]))
        self.assertEqual(told(guard), {"run": [], "view": [], "state": 0, "blocked": ["run"], "able": ["fill"],
                                       "is_complete": True, "is_allowed": True, "len": 0})

    def test_blocked_events_that_the_plant_cannot_do(self):
        task = TASK.with_blockable(["stop", "run", "drain"])
        guard = Guard(task, Keeper([(["stop", "drain"], {"fill": 1}), (["run", "drain"], {"run": 0})]))
        self.assertEqual([guard.blocked, guard.able()], [["drain", "stop"], ["fill"]])
        self.assertEqual(raised(self, NotPossible, guard, "drain"), "drain")
        self.assertEqual([guard("fill"), guard.able()], [["drain", "run"], ["leak"]])
        self.assertEqual(raised(self, NotPossible, guard, "stop"), "stop")
        self.assertEqual(raised(self, Blocked, guard, "run"), "run")
        self.assertEqual([guard("leak"), guard.able()], [["drain", "run"], []])

    def test_refused_calls_change_nothing(self):
        guard = Guard(TASK, Keeper([(["run"], {})]))
        guard("fill")
        before = told(guard)
        for event in ["fill", "stop", "none", "unknown"] + BAD_NAMES:
            self.assertEqual(raised(self, NotPossible, guard, event), event)
            self.assertEqual(told(guard), before)
        self.assertEqual(raised(self, Blocked, guard, "run"), "run")
        self.assertEqual(told(guard), before)

    def test_not_possible_comes_first(self):
        guard = Guard(TASK, Keeper([(["run"], {})]))
        self.assertEqual(raised(self, NotPossible, guard, "run"), "run")
        guard("fill")
        self.assertEqual(raised(self, Blocked, guard, "run"), "run")

    def test_the_run_goes_on_after_the_rule_is_broken(self):
        guard = Guard(TASK, Keeper([([], {})]))
        for event, allowed, state in [("fill", True, 1), ("leak", True, 2), ("run", False, 3), ("stop", False, 0),
                                      ("fill", False, 1)]:
            guard(event)
            self.assertEqual([guard.is_allowed, guard.state], [allowed, state])
        for allowed in (False, False, True, True, True):
            guard.undo()
            self.assertIs(guard.is_allowed, allowed)

    def test_final_states_of_the_rule_do_not_matter(self):
        for finals in ([], [0], [1, 2, 3]):
            rule = Machine([dict(steps) for steps in RULE.states], finals)
            guard = Guard(Task(PLANT, rule, [], []), Keeper([([], {})]))
            self.assertEqual([guard.is_complete, guard("fill"), guard.is_complete, guard.is_allowed], [True, [], False, True])

    def test_undo_until_nothing_is_left(self):
        for numbers, _, _, guard, plain in live_cases(302, 40, missing=8):
            before = [told(guard)]
            while len(guard) < 12 and guard.able():
                guard(guard.able()[numbers.below(len(guard.able()))])
                before.append(told(guard))
            for expected in before[:-1][::-1]:
                self.assertIsNone(guard.undo())
                self.assertEqual(told(guard), expected)
            for _ in range(2):
                self.assertEqual(raised(self, NothingToUndo, guard.undo), 0)
                self.assertEqual(told(guard), before[0])

    def test_what_is_done_is_what_is_passed(self):
        """A run of the plant can be done just if it is passed, and is refused at its first event that is blocked."""
        found = [0, 0]
        for _, task, rooms, guard, plain in live_cases(303, 60, ("a", "b"), (3, 2)):
            keeper = Keeper(rooms)
            through = passed(task, keeper)
            for run in lists_up_to(plain.plain.events, 4):
                answer = outcome(guard.attempt, list(run))
                if is_run(plain.plain.plant, run):
                    self.assertIs(isinstance(answer, list), passes(task, keeper, list(run)))
                    self.assertIs(isinstance(answer, list), through.has(list(run)))
                    found[isinstance(answer, list)] += 1
                    if isinstance(answer, tuple):
                        at = next(at for at in range(len(run)) if not through.has(list(run[:at + 1])))
                        self.assertEqual(answer, (Blocked, run[at]))
                else:
                    self.assertIsInstance(answer, tuple)
        self.assertGreater(min(found), 200)

    def test_keepers_that_block_what_is_not_blockable(self):
        task = TASK.with_blockable(["run", "stop"])
        # In some least room, also in one that no run of the plant leads to; the least event of all rooms.
        for rooms, event in [([(["leak"], {})], "leak"), ([(["run"], {"zz": 1}), (["stop", "leak", "fill"], {})], "fill"),
                             ([(["leak"], {"a": 1}), (["drain"], {})], "drain"), ([(["zz"], {"fill": 1}), ([], {})], "zz")]:
            self.assertEqual(raised(self, NotBlockable, Guard, task, Keeper(rooms)), event)
            self.assertEqual(raised(self, NotBlockable, passed, task, Keeper(rooms)), event)
        self.assertEqual(Guard(task, Keeper([([], {}), (["leak"], {})])).blocked, [])

    def test_lists_that_are_changed_later(self):
        for _, _, _, guard, _ in live_cases(304, 30):
            for _ in range(4):
                if guard.able():
                    guard(guard.able()[0])
            before = told(guard)
            events = ["a", "b"]
            outcome(guard.attempt, events)
            self.assertEqual(events, ["a", "b"])
            for part in [guard.run, guard.view, guard.blocked, guard.able(), events]:
                part.append("spoilt")
                part.insert(0, "spoilt")
            self.assertEqual(told(guard), before)

    def test_each_list_is_new(self):
        guard = Guard(TASK, Keeper([(["run"], {})]))
        answers = guard.attempt(["fill", "leak", "drain"])
        found = [answers] + answers + [guard("fill"), guard.blocked, guard.blocked, guard.run, guard.run, guard.view,
                                       guard.view, guard.able(), guard.able()]
        self.assertEqual(len({id(part) for part in found}), len(found))
        for part in found:
            part.clear()
        self.assertEqual([guard.blocked, guard.run, guard.view, guard.able()], [["run"], ["fill"], ["fill"], ["leak"]])

    def test_guards_do_not_share_what_is_done(self):
        keeper = Keeper([(["run"], {"drain": 1}), ([], {})])
        one, other = Guard(TASK, keeper), Guard(TASK, keeper)
        one("fill")
        self.assertEqual([one.run, other.run], [["fill"], []])
        other.attempt(["fill", "leak", "drain"])
        self.assertEqual([one.blocked, other.blocked], [["run"], ["run"]])
        one.undo()
        self.assertEqual(raised(self, NothingToUndo, other.undo), 0)

    def test_sixty_events_and_thirty_other_deeds(self):
        plain = PlainTask((STATES, [0]), ([dict(steps) for steps in RULE.states], []), ["run"], TASK.visible)
        rooms = [(["run"], {"stop": 1, "drain": 0}), ([], {"drain": 0, "fill": 1})]
        guard, plain = Guard(TASK, Keeper(rooms)), PlainGuard(plain, rooms)
        numbers = Numbers(305)
        while len(guard) < 60:
            able = guard.able()
            event = able[numbers.below(len(able))]
            self.assertEqual(guard(event), plain.call(event))
            self.assertEqual(told(guard), plain.told())
        for at in range(30):
            if at % 3 == 0:
                events = plain.told()["able"] * 2
                self.assertEqual(outcome(guard.attempt, events), plain.attempt(events))
            else:
                self.assertEqual(guard.undo(), plain.undo())
            self.assertEqual(told(guard), plain.told())
        self.assertEqual(len(guard), 40)


class Attempts(unittest.TestCase):
    def make(self):
        guard = Guard(TASK, Keeper([(["run"], {"drain": 1}), ([], {"fill": 0})]))
        guard("fill")
        return guard

    def test_to_the_end(self):
        guard = self.make()
        before = told(guard)
        self.assertEqual(guard.attempt(["leak", "drain", "fill"]), [["run"], [], ["run"]])
        self.assertEqual(told(guard), before)
        self.assertEqual(guard.attempt([]), [])
        self.assertEqual(told(guard), before)
        self.assertIsNone(guard.undo())
        self.assertEqual(guard.run, [])

    def test_an_error_at_each_place(self):
        good = ["leak", "drain", "fill", "leak", "drain", "fill"]
        for at in range(len(good) + 1):
            state = self.make()
            for event in good[:at]:
                state(event)
            for wrong in ["run", "stop", "none", "", "A"]:
                guard = self.make()
                before = told(guard)
                error = Blocked if wrong == "run" and state.state == 1 else NotPossible
                if wrong == "run" and state.state == 2:
                    error = Blocked
                events = good[:at] + [wrong] + good[at:]
                self.assertEqual(raised(self, error, guard.attempt, events), wrong)
                self.assertEqual(told(guard), before)
                self.assertEqual(guard, self.make())
                self.assertEqual(events, good[:at] + [wrong] + good[at:])
                guard.undo()
                self.assertEqual(guard.run, [])
                self.assertEqual(raised(self, NothingToUndo, guard.undo), 0)

    def test_undo_takes_back_what_was_done_before_the_attempt(self):
        guard = self.make()
        guard("leak")
        self.assertEqual(raised(self, Blocked, guard.attempt, ["drain", "fill", "run"]), "run")
        guard.undo()
        self.assertEqual(guard.run, ["fill"])
        guard.attempt(["leak"])
        guard.undo()
        self.assertEqual(guard.run, [])

    def test_thirty_events(self):
        guard = self.make()
        answers = guard.attempt(["leak", "drain", "fill"] * 10)
        self.assertEqual(answers, [["run"], [], ["run"]] * 10)
        self.assertEqual(guard, self.make())

    def test_the_events_of_the_guard_itself(self):
        guard = Guard(TASK, Keeper([([], {})]))
        guard("fill")
        guard("run")
        guard("stop")
        events = guard.run
        self.assertEqual(guard.attempt(events), [[], [], []])
        self.assertEqual([guard.run, events], [["fill", "run", "stop"], ["fill", "run", "stop"]])


class Equality(unittest.TestCase):
    def test_runs(self):
        one, other = [Guard(TASK, Keeper([([], {})])) for _ in range(2)]
        self.assertTrue(one == other)
        one("fill")
        self.assertFalse(one == other)
        self.assertTrue(one != other)
        other("fill")
        self.assertTrue(one == other)
        one("leak")
        other("run")
        self.assertFalse(one == other)
        one.undo()
        other.undo()
        self.assertTrue(one == other and not one != other)

    def test_tasks_and_keepers(self):
        plain = Guard(TASK, Keeper([(["run"], {})]))
        equal = Guard(Task(Machine(STATES + [{"zz": 0}], [0, 0]), RULE, ["run", "run"], TASK.visible[::-1]),
                      Keeper([(["run"], {"fill": 1}), (["run", "run"], {})]))
        self.assertTrue(plain == equal)
        for other in (Guard(TASK, Keeper([([], {})])), Guard(TASK.with_visible([]), Keeper([(["run"], {})])),
                      Guard(TASK.with_blockable(["run", "fill"]), Keeper([(["run"], {})])),
                      Guard(Task(PLANT, Machine([dict(steps) for steps in RULE.states], [1]), ["run"], TASK.visible),
                            Keeper([(["run"], {})])),
                      Guard(Task(Machine(STATES, []), RULE, ["run"], TASK.visible), Keeper([(["run"], {})]))):
            self.assertFalse(plain == other)
            self.assertTrue(plain != other)

    def test_other_things(self):
        for guard in (Guard(TASK, Keeper([(["run"], {})])), SteadyGuard(TASK)):
            for thing in (None, 0, "", [], (), {}, TASK, Keeper([(["run"], {})]), PLANT, mock.ANY, Guard, SteadyGuard):
                self.assertIs(guard == thing, False)
                self.assertIs(guard != thing, True)
        self.assertFalse(Guard(TASK, Keeper([([], {})])) == SteadyGuard(TASK))
        self.assertFalse(SteadyGuard(TASK) == Guard(TASK, Keeper([([], {})])))

    def test_steady_guards(self):
        one, other = SteadyGuard(TASK), SteadyGuard(Task(PLANT, RULE, ["run", "run"], TASK.visible[::-1]))
        self.assertTrue(one == other)
        one.choose(["run"])
        self.assertFalse(one == other)
        one.choose([])
        # How the choice in force came about does not count.
        self.assertTrue(one == other and not one != other)
        one("fill")
        self.assertFalse(one == other)
        other.choose(["run"])
        other("fill")
        self.assertTrue(one == other)
        one("leak")
        self.assertFalse(one == other)
        other("leak")
        self.assertTrue(one == other)
        self.assertFalse(SteadyGuard(TASK) == SteadyGuard(TASK.with_visible(["fill", "drain"])))

    def test_beliefs(self):
        """The same run, seen by gatekeepers that chose otherwise before it, may leave unlike beliefs."""
        plant = Machine([{"h": 1, "v": 2}, {"v": 3}, {"v": 4}, {"v": 5}, {"v": 4}, {"v": 2}], [2, 5])
        task = Task(plant, Machine([{"h": 0, "v": 0}], []), ["h"], ["v"])
        one, other = SteadyGuard(task), SteadyGuard(task)
        one.choose(["h"])
        one("v")
        other("v")
        self.assertEqual([one.run, one.blocked], [other.run, other.blocked])
        self.assertEqual([one.belief, other.belief], [[(2, 0)], [(2, 0), (3, 0)]])
        self.assertFalse(one == other)
        self.assertTrue(one != other)


class Forms(unittest.TestCase):
    def test_classes(self):
        shared = ["__init__", "__call__", "__len__", "__eq__", "able", "undo"]
        properties = ["run", "view", "state", "blocked", "is_complete", "is_allowed"]
        for kind, methods, more in [(Guard, shared + ["attempt"], []), (SteadyGuard, shared + ["choose"], ["belief", "choices"])]:
            self.assertEqual(kind.__module__, "seenbars.guards")
            for name in methods:
                self.assertTrue(inspect.isfunction(vars(kind)[name]), name)
            for name in properties + more:
                self.assertIsInstance(vars(kind)[name], property, name)
        self.assertFalse(issubclass(SteadyGuard, Guard))
        self.assertFalse(hasattr(SteadyGuard(TASK), "attempt"))
        self.assertEqual([guards.Guard, guards.SteadyGuard], [Guard, SteadyGuard])

    def test_by_name(self):
        guard = Guard(keeper=Keeper(rooms=[(["run"], {})]), task=TASK)
        self.assertEqual([guard(event="fill"), guard.attempt(events=["leak"])], [["run"], [["run"]]])
        hand = SteadyGuard(task=TASK)
        self.assertEqual([hand.choose(choice=["run"]), hand(event="fill")], [None, ["run"]])
        for call, names in [(Guard, ["task", "keeper"]), (guard, ["event"]), (guard.attempt, ["events"]),
                            (guard.able, []), (guard.undo, []), (SteadyGuard, ["task"]), (hand, ["event"]),
                            (hand.choose, ["choice"]), (hand.able, []), (hand.undo, [])]:
            self.assertEqual(list(inspect.signature(call).parameters), names)

    def test_kinds_of_values(self):
        for guard in (Guard(TASK, Keeper([(["run"], {})])), SteadyGuard(TASK)):
            self.assertIs(type(guard("fill")), list)
            self.assertEqual([type(part) for part in told(guard).values()][:8], [list, list, int, list, list, bool, bool, int])
            self.assertIsNone(guard.undo())
        self.assertEqual([type(place) for place in guard.belief], [tuple])
        self.assertEqual([type(choice) for choice in guard.choices], [list, list])

    def test_tasks_and_keepers_stay_as_they_were(self):
        keeper = Keeper([(["run"], {"drain": 1}), ([], {})])
        guard, hand = Guard(TASK, keeper), SteadyGuard(TASK)
        for one in (guard, hand):
            one("fill")
            outcome(one, "run")
            one.undo()
        hand.choose(["run"])
        self.assertEqual(keeper, Keeper([(["run"], {"drain": 1}), ([], {})]))
        self.assertEqual(TASK, Task(Machine(STATES, [0]), RULE, ["run"], ["fill", "run", "stop", "drain"]))


if __name__ == "__main__":
    unittest.main()

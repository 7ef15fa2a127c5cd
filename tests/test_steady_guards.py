"""The section of guards.py: the class SteadyGuard, event by event, and what point [10] says of `menu`."""

import copy
import unittest

from seenbars.beliefs import belief_after, is_steady_choice, judge_ranks, menu, ranks
from seenbars.errors import Blocked, InvalidChoice, NoGatekeeper, NothingToUndo, NotPossible
from seenbars.guards import Guard, SteadyGuard
from seenbars.keepers import Keeper, first_fault
from seenbars.machines import Machine
from seenbars.tasks import Task
from tests.live import START, TASK, PlainSteady, outcome, some_event, steady_cases, told
from tests.plain import BAD_NAMES, Numbers, raised
from tests.searches import PlainTask, some_plain_task


class Steady(unittest.TestCase):
    def test_plain(self):
        kinds = {}
        for numbers, task, guard, plain in steady_cases(311, 120):
            self.assertEqual(told(guard), plain.told())
            for _ in range(40):
                deed = numbers.below(8)
                if deed < 4:
                    event = some_event(numbers, plain, guard)
                    answer = outcome(guard, event)
                    self.assertEqual(answer, plain.call(event), str(plain.plain))
                elif deed < 6:
                    answer = outcome(guard.undo)
                    self.assertEqual(answer, plain.undo())
                else:
                    choices = guard.choices if numbers.below(3) > 0 else [list(some) for some in plain.plain.choices]
                    choice = choices[numbers.below(len(choices))]
                    answer = outcome(guard.choose, choice)
                    self.assertEqual(answer, plain.choose(choice), str(plain.plain))
                kind = deed, answer[0] if isinstance(answer, tuple) else type(answer)
                kinds[kind] = kinds.get(kind, 0) + 1
                self.assertEqual(told(guard), plain.told(), str(plain.plain))
        for error in (NotPossible, Blocked, NothingToUndo, InvalidChoice):
            self.assertGreater(sum(many for (_, kind), many in kinds.items() if kind is error), 30, error)

    def test_choice_in_force(self):
        guard = SteadyGuard(TASK.with_visible(["fill", "drain", "leak"]))
        self.assertEqual([guard.blocked, guard.choices, guard.belief], [[], [[], ["run"]], START])
        self.assertEqual([guard("fill"), guard.blocked, guard.belief], [[], [], [(1, 1)]])
        self.assertIsNone(guard.choose(["run"]))
        self.assertEqual([guard.blocked, guard("leak"), guard.belief], [["run"], ["run"], [(2, 2)]])
        guard("drain")
        self.assertEqual([guard.blocked, guard.run, guard.view], [[], ["fill", "leak", "drain"], ["fill", "leak", "drain"]])
        guard.undo()
        guard.undo()
        self.assertEqual([guard.blocked, guard.run], [["run"], ["fill"]])
        guard.undo()
        self.assertEqual([guard.blocked, guard.run], [[], ["fill"]])
        # An invisible event leaves the choice as it is.
        self.assertEqual([guard("run"), guard.blocked, guard.belief], [[], [], [(1, 1)]])
        self.assertEqual([guard("stop"), guard.belief, guard.view], [[], [(1, 1)], ["fill"]])
        self.assertEqual([guard("fill"), guard.belief], [[], [(1, 1)]])

    def test_choose_after_invisible_events(self):
        plant = Machine([{"h": 1, "v": 0}, {"h": 0, "v": 1, "w": 0}], [0])
        guard = SteadyGuard(Task(plant, Machine([{"h": 0, "v": 0, "w": 0}], []), ["w", "v"], ["v"]))
        self.assertEqual(guard.choices, [[], ["v"], ["w"], ["v", "w"]])
        guard.choose(["w"])
        guard("h")
        before = told(guard)
        for choice in ([], ["v"], ["w"], ["v", "w"]):
            self.assertEqual(raised(self, InvalidChoice, guard.choose, choice), choice)
            self.assertEqual(told(guard), before)
        self.assertEqual(guard.choices, [[], ["v"], ["w"], ["v", "w"]])
        guard("h")
        self.assertEqual(raised(self, InvalidChoice, guard.choose, ["v"]), ["v"])
        guard.undo()
        self.assertEqual(raised(self, InvalidChoice, guard.choose, ["v"]), ["v"])
        guard.undo()
        # All invisible events are taken back.
        self.assertIsNone(guard.choose(["v"]))
        self.assertEqual(guard.blocked, ["v"])
        self.assertEqual(raised(self, Blocked, guard, "v"), "v")
        guard.choose([])
        guard("h")
        guard("v")
        self.assertIsNone(guard.choose(["v", "w"]))
        guard("h")
        self.assertEqual(raised(self, InvalidChoice, guard.choose, ["v", "w"]), ["v", "w"])

    def test_choices_that_are_not_listed(self):
        plant = Machine([{"a": 0, "b": 0, "v": 0}], [0])
        task = Task(plant, Machine([{"b": 0, "v": 0}], []), ["a", "b", "v"], ["v"])
        guard = SteadyGuard(task)
        self.assertEqual(guard.choices, [["a"], ["a", "b"], ["a", "v"], ["a", "b", "v"]])
        before = told(guard)
        for choice in [[], ["b"], ["b", "a"], ["a", "a"], ["a", "b", "b"], ["b", "a", "v"], ["v", "a"], ["zz"], ["A"], [""],
                       ["a", "zz"], ["a", "b", "v", "v"]] + [[name] for name in BAD_NAMES]:
            given = list(choice)
            value = raised(self, InvalidChoice, guard.choose, given)
            self.assertEqual([value, given], [choice, choice])
            self.assertIsNot(value, given)
            given.append("spoilt")
            self.assertEqual(value, choice)
            self.assertEqual(told(guard), before)
        self.assertEqual(raised(self, NothingToUndo, guard.undo), 0)

    def test_chosen_lists_that_are_changed_later(self):
        guard = SteadyGuard(TASK)
        choice = ["run"]
        guard.choose(choice)
        choice.append("fill")
        self.assertEqual([guard.blocked, guard.choices], [["run"], [[], ["run"]]])
        choice.clear()
        self.assertEqual(guard.blocked, ["run"])

    def test_lists_that_are_changed_later(self):
        for _, task, guard, plain in steady_cases(312, 30):
            for _ in range(3):
                if guard.able():
                    guard(guard.able()[-1])
            before = copy.deepcopy(told(guard))
            found = [guard.run, guard.view, guard.blocked, guard.able(), guard.belief, guard.choices] + guard.choices
            again = [guard.run, guard.view, guard.blocked, guard.able(), guard.belief, guard.choices] + guard.choices
            self.assertEqual(len({id(part) for part in found + again}), len(found) * 2)
            for part in found + found[5]:
                part.append("spoilt")
            self.assertEqual(told(guard), before)

    def test_undo_of_choices(self):
        guard = SteadyGuard(TASK)
        before = told(guard)
        guard.choose([])
        guard.choose(["run"])
        guard.choose(["run"])
        self.assertIsNone(guard.undo())
        self.assertEqual(guard.blocked, ["run"])
        guard.undo()
        self.assertEqual(told(guard), before)
        # The first choice chose what was in force already; it is a deed that can be taken back, too.
        guard.undo()
        self.assertEqual(told(guard), before)
        for _ in range(2):
            self.assertEqual(raised(self, NothingToUndo, guard.undo), 0)
            self.assertEqual(told(guard), before)

    def test_undo_of_an_event_brings_the_choice_back(self):
        guard = SteadyGuard(TASK.with_visible(["fill", "drain", "leak"]))
        guard("fill")
        guard.choose(["run"])
        deeds = [told(guard)]
        for event in ("leak", "drain", "fill"):
            guard(event)
            deeds.append(told(guard))
        for expected in deeds[:-1][::-1]:
            guard.undo()
            self.assertEqual(told(guard), expected)
        self.assertEqual(guard.blocked, ["run"])

    def test_undo_until_nothing_is_left(self):
        for numbers, _, guard, plain in steady_cases(313, 60):
            before = [told(guard)]
            for _ in range(12):
                choices = guard.choices
                able = guard.able()
                free = not guard.run or guard.run[-1] in plain.plain.visible
                if free and (numbers.below(2) == 0 or not able):
                    guard.choose(choices[numbers.below(len(choices))])
                elif able:
                    guard(able[numbers.below(len(able))])
                else:
                    break
                before.append(told(guard))
            for expected in before[:-1][::-1]:
                self.assertIsNone(guard.undo())
                self.assertEqual(told(guard), expected)
            self.assertEqual(raised(self, NothingToUndo, guard.undo), 0)

    def test_refused_calls_change_nothing(self):
        guard = SteadyGuard(TASK)
        guard("fill")
        before = told(guard)
        for event in ["fill", "stop", "none", "unknown"] + BAD_NAMES:
            self.assertEqual(raised(self, NotPossible, guard, event), event)
            self.assertEqual(told(guard), before)
        self.assertEqual(raised(self, Blocked, guard, "run"), "run")
        self.assertEqual(told(guard), before)

    def test_the_rule_is_never_broken_and_the_plant_never_stops_too_early(self):
        numbers = Numbers(314)
        many = 0
        for _, task, guard, plain in steady_cases(315, 120, sizes=(3, 3), missing=6):
            for _ in range(20):
                self.assertIs(guard.is_allowed, True)
                self.assertTrue(guard.able() or guard.is_complete)
                free = not guard.run or guard.run[-1] in task.visible
                if free:
                    guard.choose(guard.choices[numbers.below(len(guard.choices))])
                    self.assertTrue(guard.able() or guard.is_complete)
                if not guard.able():
                    break
                guard(guard.able()[numbers.below(len(guard.able()))])
                many += 1
        self.assertGreater(many, 1000)

    def test_beliefs_and_choices_are_those_of_the_menu(self):
        for numbers, task, guard, _ in steady_cases(316, 80):
            listed = {tuple(belief): choices for belief, choices in menu(task)}
            belief, choice = START, listed[((0, 0),)][0]
            for _ in range(10):
                self.assertEqual([guard.belief, guard.choices], [belief, listed[tuple(belief)]])
                self.assertIs(is_steady_choice(task, guard.belief, guard.blocked), True)
                if not guard.able():
                    break
                event = guard.able()[numbers.below(len(guard.able()))]
                if event in task.visible:
                    belief = belief_after(task, belief, guard.blocked, event)
                    choice = listed[tuple(belief)][0]
                self.assertEqual([guard(event), guard.blocked], [choice, choice])

    def test_no_gatekeeper(self):
        free = TASK.with_blockable([])
        told_list = raised(self, NoGatekeeper, SteadyGuard, free)
        self.assertIs(judge_ranks(free, told_list), True)
        numbers = Numbers(317)
        found = [0, 0]
        for _ in range(200):
            plain = some_plain_task(numbers, ("a", "b", "c"), (3, 2), 4, 2)
            task = Task(Machine(*plain.plant), Machine(*plain.rule), plain.blockable, plain.visible)
            found[ranks(task) is None] += 1
            if ranks(task) is None:
                self.assertEqual(len(SteadyGuard(task)), 0)
            else:
                value = raised(self, NoGatekeeper, SteadyGuard, task)
                self.assertIs(judge_ranks(task, value), True)
                self.assertIs(plain.judge_ranks(value), True)
        self.assertGreater(min(found), 30)

    def test_taken_together_the_choices_make_a_steady_keeper(self):
        """Whoever takes just what is in force at each view is a steady gatekeeper (point [10])."""
        for _, task, guard, plain in steady_cases(318, 60, missing=6):
            rooms, place, at = [], {((0, 0),): 0}, 0
            beliefs = [((0, 0),)]
            while at < len(beliefs):
                choice = plain.choices_at(beliefs[at])[0]
                steps = {}
                for event, ahead in plain.plain.nexts(beliefs[at], choice).items():
                    if ahead not in place:
                        place[ahead] = len(beliefs)
                        beliefs.append(ahead)
                    steps[event] = place[ahead]
                rooms.append((list(choice), steps))
                at += 1
            keeper = Keeper(rooms)
            self.assertIsNone(first_fault(task, keeper, "steady"))
            beside = Guard(task, keeper)
            while guard.able() and len(guard) < 10:
                event = guard.able()[-1]
                self.assertEqual(guard(event), beside(event))
                self.assertEqual([guard.run, guard.state, guard.able()], [beside.run, beside.state, beside.able()])

    def test_sixty_events_and_thirty_other_deeds(self):
        numbers = Numbers(319)
        states = [{"a": 1, "b": 2, "c": 0, "d": 3}, {"a": 2, "b": 0, "e": 4}, {"c": 3, "d": 1, "e": 0},
                  {"a": 5, "b": 4, "d": 0}, {"b": 1, "c": 5, "e": 2}, {"a": 0, "d": 2, "e": 3}]
        plain = PlainTask((states, []), ([{event: 0 for event in "abcde"}], []), ["a", "b", "c", "d"], ["a", "c", "d"])
        task = Task(Machine(*plain.plant), Machine(*plain.rule), plain.blockable, plain.visible)
        self.assertEqual(len(task.positions), 6)
        guard = SteadyGuard(task)
        plain = PlainSteady(plain, plain.greatest_pairs("steady"))
        others = 0
        while len(guard) < 60:
            free = not guard.run or guard.run[-1] in task.visible
            if free and others < 30:
                choices = [choice for choice in guard.choices if len(choice) < 3]
                choice = choices[numbers.below(len(choices))]
                self.assertEqual(outcome(guard.choose, choice), plain.choose(choice))
                others += 1
            able = [event for event in guard.able() if event in task.visible] or guard.able()
            event = able[numbers.below(len(able))]
            self.assertEqual(guard(event), plain.call(event))
            self.assertEqual(told(guard), plain.told())
        self.assertEqual(others, 30)
        for _ in range(60 + others):
            self.assertEqual(guard.undo(), plain.undo())
            self.assertEqual(told(guard), plain.told())
        self.assertEqual(raised(self, NothingToUndo, guard.undo), 0)


if __name__ == "__main__":
    unittest.main()

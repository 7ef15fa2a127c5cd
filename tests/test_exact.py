"""The section of exact.py, and what point [10] says of teams."""

import itertools
import unittest
from unittest import mock

from seenbars.errors import InvalidName, NotBlockable, NotExact, UnknownEvent
from seenbars.exact import Team, passed_by
from seenbars.keepers import Keeper
from seenbars.machines import Machine
from seenbars.tasks import Task
from tests.plain import (BAD_NAMES, Numbers, blocked_at, events_in, is_complete, is_run, lists_up_to, raised, some_of,
                         some_rooms, some_spec, view_in)
from tests.searches import PlainTeam, all_rooms, dicts

PLANT = Machine([{"fill": 1}, {"run": 2, "leak": 3}, {"stop": 0}, {"run": 4, "drain": 0}, {"stop": 0}], [0])
RULE = Machine([{"fill": 1}, {"run": 2, "leak": 3}, {"stop": 0}, {"drain": 0}], [])
IDLE = Keeper([([], {})])


def some_case(numbers, many, events=("a", "b"), sizes=(2, 2)):
    """A plant and a rule, as specs, and the lists of some members."""
    plant, rule = some_spec(numbers, events, sizes[0], 5), some_spec(numbers, events, sizes[1], 4)
    known = events_in(dicts(plant))
    return plant, rule, [(some_of(numbers, known), some_of(numbers, known)) for _ in range(many)]


def team_of(case):
    return Team(Machine(*case[0]), Machine(*case[1]), case[2])


def passes_together(case, rooms, run):
    """Point [8] word by word, for several gatekeepers that are given by rooms."""
    return is_run(case[0], run) and not any(
        event in blocked_at(member_rooms, view_in(visible, run[:at]))
        for (_, visible), member_rooms in zip(case[2], rooms) for at, event in enumerate(run))


def back(keeper):
    return [(blocked, dict(steps)) for blocked, steps in keeper.rooms]


class Building(unittest.TestCase):
    def test_lists_in_any_order_and_twice(self):
        team = Team(PLANT, RULE, [(["run", "fill", "run"], ["stop", "leak", "stop"]), ([], []), (PLANT.events[::-1], [])])
        self.assertEqual(team.members, [(["fill", "run"], ["leak", "stop"]), ([], []), (PLANT.events, [])])
        self.assertEqual((team.plant, team.rule, len(team)), (PLANT, RULE, 3))

    def test_tasks_of_members(self):
        team = Team(PLANT, RULE, [(["run"], ["fill"]), ([], ["leak", "drain"])])
        self.assertEqual(team.task_of(0), Task(PLANT, RULE, ["run"], ["fill"]))
        self.assertEqual(team.task_of(index=1), Task(PLANT, RULE, [], ["drain", "leak"]))

    def test_alone(self):
        task = Task(PLANT, RULE, ["run", "leak"], ["fill"])
        team = Team.alone(task)
        self.assertIs(type(team), Team)
        self.assertEqual((team.plant, team.rule, team.members), (PLANT, RULE, [(["leak", "run"], ["fill"])]))
        self.assertEqual(team.task_of(0), task)
        self.assertEqual(Team.alone(task=task), Team(PLANT, RULE, [(["run", "leak"], ["fill"])]))

    def test_names_come_first_for_each_member(self):
        for name in BAD_NAMES:
            for blockable, visible in [(["other", name, "A"], ["B"]), (["other"], ["fill", name, "A"])]:
                members = [(["run"], []), (blockable, visible), (["A"], ["A"])]
                self.assertEqual(raised(self, InvalidName, Team, PLANT, RULE, members), name)

    def test_unknown_events(self):
        for blockable, visible in [(["run", "y", "x"], ["w"]), (["run"], ["fill", "y", "w"])]:
            members = [(["run"], []), (blockable, visible), (["x"], ["x"])]
            self.assertEqual(raised(self, UnknownEvent, Team, PLANT, RULE, members), "y")

    def test_one_member_before_the_next(self):
        members = [(["run"], ["other"]), (["A"], [])]
        self.assertEqual(raised(self, UnknownEvent, Team, PLANT, RULE, members), "other")
        self.assertEqual(raised(self, InvalidName, Team, PLANT, RULE, members[::-1]), "A")


class Equality(unittest.TestCase):
    def test_each_part_counts(self):
        one, two = (["run"], ["fill"]), (["leak"], [])
        team = Team(PLANT, RULE, [one, two])
        self.assertEqual(team, Team(PLANT, RULE, [(["run", "run"], ["fill"]), two]))
        for other in [Team(PLANT, RULE, [two, one]), Team(PLANT, RULE, [one]), Team(PLANT, RULE, [one, two, two]),
                      Team(PLANT, PLANT, [one, two]), Team(PLANT | Machine([{}], []), PLANT, [one, two]),
                      Team(PLANT & Machine([{"fill": 1}, {"run": 0, "leak": 0}], []), RULE, [one, two]),
                      Team(PLANT, RULE, [(["run"], []), two]), Team(PLANT, RULE, [([], ["fill"]), two])]:
            self.assertIs(team == other, False)
            self.assertIs(team != other, True)

    def test_final_states_of_the_rule_count(self):
        ended = Machine([dict(row) for row in RULE.states], [0])
        self.assertNotEqual(Team(PLANT, ended, [([], [])]), Team(PLANT, RULE, [([], [])]))

    def test_other_things(self):
        team = Team(PLANT, RULE, [(["run"], [])])
        for thing in (None, 1, "x", [], PLANT, team.task_of(0), mock.ANY, Team):
            self.assertIs(team == thing, False)
            self.assertIs(team != thing, True)


class Faults(unittest.TestCase):
    def test_plain(self):
        """The runs that look the same have at most nine events, and the faults at most five."""
        numbers = Numbers(101)
        found = {}
        for many, count in ((1, 120), (2, 120), (3, 160)):
            for _ in range(count):
                case = some_case(numbers, many)
                told = team_of(case).find_fault()
                self.assertEqual(told, PlainTeam(*case, 9).find_fault(5), case)
                key = (many, None if told is None else min(len(told[0]), 1))
                found[key] = found.get(key, 0) + 1
        self.assertTrue(all(found.get((many, kind), 0) > 3 for many in (1, 2, 3) for kind in (None, 0, 1)), found)

    def test_three_events(self):
        numbers = Numbers(102)
        for _ in range(60):
            case = some_case(numbers, 2, ("a", "b", "c"), (3, 2))
            told, expected = team_of(case).find_fault(), PlainTeam(*case, 6).find_fault(3)
            if told != expected:
                self.assertTrue(expected is None and max(len(run) for run in [told[0]] + told[2] if run) > 3, case)

    def test_an_event_that_nobody_can_block(self):
        team = Team(PLANT, RULE, [([], PLANT.events), (["fill"], [])])
        self.assertEqual(team.find_fault(), (["fill", "leak"], "run", [None, None]))

    def test_a_member_that_cannot_block_says_none(self):
        team = Team(PLANT, RULE, [(["run"], []), ([], PLANT.events), (["run"], ["fill"])])
        self.assertEqual(team.find_fault(), (["fill", "leak"], "run", [["fill"], None, ["fill"]]))

    def test_a_rule_without_steps(self):
        rule = Machine([{}], [])
        plant = Machine([{"a": 0, "b": 0}], [0])
        self.assertEqual(Team(plant, rule, [(["a", "b"], [])]).find_fault(), None)
        self.assertEqual(Team(plant, rule, [(["a"], ["a", "b"])]).find_fault(), ([], "b", [None]))
        self.assertEqual(Team(plant, rule, [(["a"], []), (["b"], [])]).find_fault(), None)
        self.assertEqual(Team(plant, rule, [([], [])]).find_fault(), ([], "a", [None]))

    def test_all_events_blockable_and_visible(self):
        numbers = Numbers(103)
        for _ in range(30):
            plant, rule, members = some_case(numbers, 1, ("a", "b", "c"), (3, 3))
            events = Machine(*plant).events
            self.assertIsNone(team_of((plant, rule, [(events, events)] + members)).find_fault())

    def test_a_rule_that_is_not_broken(self):
        self.assertIsNone(Team(PLANT, PLANT, [([], [])]).find_fault())
        self.assertIsNone(Team(RULE, PLANT, [([], [])]).find_fault())

    def test_members_that_stop_an_event_after_unlike_runs(self):
        """One member sees `a` and the other sees `b`; `c` breaks the rule after either of them, and never before."""
        plant = Machine([{"a": 1, "b": 2, "c": 0}, {"c": 1}, {"c": 2}], [])
        rule = Machine([{"a": 1, "b": 2, "c": 0}, {}, {}], [])
        both = Team(plant, rule, [(["c"], ["a"]), (["c"], ["b"])])
        self.assertIsNone(both.find_fault())
        self.assertEqual(Team(plant, rule, both.members[:1]).find_fault(), (["b"], "c", [[]]))
        self.assertEqual(Team(plant, rule, both.members[1:]).find_fault(), (["a"], "c", [[]]))
        self.assertEqual(Team(plant, rule, [(["c"], []), ([], ["a", "b"])]).find_fault(), (["a"], "c", [[], None]))
        self.assertEqual(passed_by(both, both.make_keepers()), both.task_of(0).allowed)

    def test_an_alike_run_may_be_longer(self):
        plant = Machine([{"a": 1, "z": 0}, {"b": 2}, {"b": 2, "z": 2}], [])
        rule = Machine([{"a": 1}, {"b": 2}, {"b": 2, "z": 2}], [])
        team = Team(plant, rule, [(["z"], []), (["z"], ["z"])])
        self.assertEqual(team.find_fault(), ([], "z", [["a", "b"], ["a", "b"]]))


class Keepers(unittest.TestCase):
    def test_plain(self):
        numbers = Numbers(104)
        found = [0, 0]
        for at in range(150):
            case = some_case(numbers, 1 + at % 3, sizes=(3, 2) if at % 2 else (2, 3))
            team = team_of(case)
            fault = team.find_fault()
            found[fault is None] += 1
            if fault is not None:
                self.assertEqual(raised(self, NotExact, team.make_keepers), fault)
                continue
            keepers = team.make_keepers()
            self.assertEqual([type(keeper) for keeper in keepers], [Keeper] * len(team))
            self.assertEqual(passed_by(team, keepers), team.task_of(0).allowed)
            rooms = [back(keeper) for keeper in keepers]
            for run in lists_up_to(events_in(case[0]), 6):
                allowed = is_run(case[0], run) and is_run(case[1], run)
                self.assertIs(passes_together(case, rooms, run), allowed, case)
        self.assertGreater(min(found), 20)

    def test_all_keepers_with_two_rooms(self):
        """If keepers pass exactly the allowed runs, there is no fault."""
        numbers = Numbers(105)
        found = [0, 0]
        while min(found) < 12:
            case = some_case(numbers, 2)
            if any(len(blockable) > 1 or len(visible) > 1 for blockable, visible in case[2]):
                continue
            team = team_of(case)
            rooms = [[Keeper(rooms) for rooms in all_rooms(*member, 2)] for member in case[2]]
            allowed = team.task_of(0).allowed
            exact = any(passed_by(team, list(pair)) == allowed for pair in itertools.product(*rooms))
            found[exact] += 1
            self.assertIs(team.find_fault() is None, exact, case)

    def test_passed_by(self):
        numbers = Numbers(106)
        for at in range(60):
            case = some_case(numbers, 1 + at % 3, sizes=(3, 2))
            rooms = [some_rooms(numbers, blockable, ["a", "b", "z"], 2) for blockable, _ in case[2]]
            machine = passed_by(team_of(case), [Keeper(member_rooms) for member_rooms in rooms])
            for run in lists_up_to(["a", "b"], 5):
                expected = passes_together(case, rooms, run)
                self.assertIs(machine.has(list(run)), expected, case)
                self.assertIs(machine.completes(list(run)), expected and is_complete(case[0], run), case)

    def test_idle_keepers_pass_the_plant(self):
        team = Team(PLANT, RULE, [([], []), (["run"], []), ([], ["leak"])])
        self.assertEqual(passed_by(team, [IDLE, IDLE, IDLE]), PLANT)

    def test_not_blockable(self):
        team = Team(PLANT, RULE, [(["run"], ["fill"]), (["leak"], [])])
        run, leak = Keeper([(["run"], {})]), Keeper([(["leak"], {})])
        many = Keeper([(["stop"], {"x": 1}), (["run", "leak", "fill"], {})])
        self.assertEqual(passed_by(team=team, keepers=[run, leak]).events, ["fill"])
        for keepers, event in [([leak, run], "leak"), ([run, run], "run"), ([many, leak], "fill"), ([run, many], "fill"),
                               ([leak, many], "leak"), ([IDLE, Keeper([(["zz"], {})])], "zz")]:
            self.assertEqual(raised(self, NotBlockable, passed_by, team, keepers), event)


if __name__ == "__main__":
    unittest.main()

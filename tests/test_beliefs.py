"""Point [9], the section of beliefs.py, and what point [10] says of steady gatekeepers."""

import unittest

from seenbars.beliefs import (belief_after, is_safe_choice, is_steady_choice, judge_menu, judge_ranks, menu, ranks,
                              spread, steady_keeper)
from seenbars.errors import InvalidBelief, InvalidChoice, InvalidEvent
from seenbars.keepers import Keeper, first_fault
from seenbars.machines import Machine
from seenbars.tasks import Task
from tests.plain import BAD_NAMES, Numbers, blocked_at, lists_up_to, raised, some_rooms, view_in
from tests.searches import all_rooms, some_plain_task

PLANT = Machine([{"fill": 1}, {"run": 2, "leak": 3}, {"stop": 0}, {"run": 4, "drain": 0}, {"stop": 0}], [0])
RULE = Machine([{"fill": 1}, {"run": 2, "leak": 3}, {"stop": 0}, {"drain": 0}], [])
START = [(0, 0)]


def task_of(plain):
    return Task(Machine(*plain.plant), Machine(*plain.rule), plain.blockable, plain.visible)


def cases(seed, count, events=("a", "b"), sizes=(2, 2), missing=4, ratio=2):
    numbers = Numbers(seed)
    for _ in range(count):
        plain = some_plain_task(numbers, events, sizes, missing, ratio)
        yield numbers, plain, task_of(plain)


def changed_pairs(numbers, plain, told):
    """A list of tuples (belief, choices) with something changed, so that it may be wrong."""
    told = [(list(belief), [list(choice) for choice in choices]) for belief, choices in told]
    kind = numbers.below(9)
    at = numbers.below(max(len(told), 1))
    beliefs = plain.beliefs()
    belief = list(beliefs[numbers.below(len(beliefs))])
    choice = list(plain.choices[numbers.below(len(plain.choices))])
    if kind == 0 or not told:
        told.insert(at, (belief, [choice]))
    elif kind == 1:
        del told[at]
    elif kind == 2:
        told[at][1].append(choice)
    elif kind == 3:
        del told[at][1][:1]
    elif kind == 4:
        told[at] = (told[at][0] + belief, told[at][1])
    elif kind == 5:
        told[at][1][-1:] = [choice + ["zz"][:numbers.below(2)] + plain.events[:numbers.below(2)]]
    elif kind == 6:
        told.append(told[at])
    elif kind == 7:
        told = [(order, choices[::-1]) for order, choices in told[::-1]]
    else:
        told = [(list(other), [list(some)]) for other, some in zip(beliefs, plain.choices * len(beliefs))]
    return told


class Spreads(unittest.TestCase):
    def test_plain(self):
        for sizes in ((2, 2), (3, 2)):
            for _, plain, task in cases(121, 25, ("a", "b", "c"), sizes):
                for belief in plain.beliefs():
                    for choice in plain.choices:
                        self.check(plain, task, belief, choice)

    def check(self, plain, task, belief, choice):
        given, some = list(belief), list(choice)
        self.assertEqual(spread(task, given, some), plain.spread(belief, choice), str(plain))
        self.assertIs(is_safe_choice(task, given, some), plain.is_safe(belief, choice), str(plain))
        self.assertIs(is_steady_choice(task, given, some), plain.is_steady(belief, choice), str(plain))
        for event in plain.visible:
            if event not in choice:
                self.assertEqual(belief_after(task, given, some, event), list(plain.after(belief, choice, event)))

    def test_beliefs_are_where_runs_with_one_view_lead(self):
        """Without any blocks, the belief after a view is where the allowed runs lead that end with the view."""
        for _, plain, task in cases(122, 40):
            runs = [run for run in lists_up_to(plain.events, 7) if plain.is_allowed(run)]
            for view in lists_up_to(plain.visible, 3):
                belief = START
                for event in view:
                    belief = belief_after(task, belief, [], event) if belief else []
                ends = {task.position_after(list(run)) for run in runs
                        if tuple(view_in(plain.visible, run)) == view and run[-1:] == view[-1:]}
                if view:
                    self.assertEqual(belief, sorted(ends), (str(plain), view))

    def test_an_event_that_cannot_happen_or_breaks_the_rule(self):
        plant = Machine([{"a": 1, "b": 1}, {"c": 0}], [])
        task = Task(plant, Machine([{"a": 1}, {"c": 0}], []), ["a", "c"], ["b", "c"])
        self.assertEqual(belief_after(task, START, ["a"], "c"), [])
        self.assertEqual(belief_after(task, START, [], "c"), START)
        self.assertEqual(belief_after(task, START, [], "b"), [])
        self.assertIs(is_safe_choice(task, START, ["a"]), False)

    def test_a_blocked_event_does_not_count(self):
        task = Task(Machine([{"a": 1, "b": 0}, {}], []), Machine([{"b": 0}], []), ["a", "b"], ["b"])
        self.assertEqual([is_safe_choice(task, START, choice) for choice in ([], ["a"], ["a", "b"])],
                         [False, True, True])
        self.assertEqual([is_steady_choice(task, START, choice) for choice in ([], ["a"], ["a", "b"], ["b"])],
                         [False, True, False, False])
        self.assertIs(is_steady_choice(Task(Machine([{"a": 1, "b": 0}, {}], [0]), Machine([{"b": 0}], []), ["a", "b"],
                                            []), START, ["a", "b"]), True)


class Errors(unittest.TestCase):
    task = Task(PLANT, RULE, ["run", "leak"], ["fill", "run", "stop"])
    calls = [(spread, []), (is_safe_choice, []), (is_steady_choice, []), (belief_after, ["other"])]

    def test_invalid_beliefs(self):
        for belief in [[], [(1, 1), (0, 0)], [(0, 0), (0, 0)], [(0, 1)], [(0, 0), (4, 4)], [(-1, 0)], [(0, 0), (0, 3)]]:
            for call, more in self.calls:
                for choice in ([], ["zz", "a"]):
                    told = raised(self, InvalidBelief, call, self.task, belief, choice, *more)
                    self.assertEqual(told, belief)
                    self.assertIsNot(told, belief)

    def test_invalid_choices(self):
        for choice in [["run", "leak"], ["run", "run"], ["fill"], ["leak", "run", "stop"], ["zz"]] + [
                [name] for name in BAD_NAMES]:
            for call, more in self.calls:
                told = raised(self, InvalidChoice, call, self.task, [(1, 1)], choice, *more)
                self.assertEqual(told, choice)
                self.assertIsNot(told, choice)

    def test_invalid_events(self):
        for event in ["leak", "drain", "zz"] + BAD_NAMES:
            self.assertEqual(raised(self, InvalidEvent, belief_after, self.task, [(1, 1)], ["run"], event), event)
        self.assertEqual(raised(self, InvalidEvent, belief_after, self.task, [(1, 1)], ["run"], "run"), "run")
        self.assertEqual(belief_after(self.task, [(1, 1)], [], "run"), [(3, 3)])

    def test_by_name(self):
        told = {"choice": ["run"], "belief": [(1, 1)], "task": self.task}
        self.assertEqual(spread(**told), [(0, 0), (1, 1), (2, 2)])
        self.assertIs(is_safe_choice(**told), True)
        self.assertIs(is_steady_choice(**told), True)
        self.assertEqual(belief_after(event="fill", **told), [(1, 1)])
        told["choice"] = []
        self.assertIs(is_safe_choice(**told), False)


class Menus(unittest.TestCase):
    def test_all_sets_of_pairs(self):
        """The greatest set, found by looking at all sets of safe pairs where there are not too many."""
        checked = 0
        for _, plain, task in cases(131, 250, sizes=(2, 1), ratio=1):
            pairs = [(belief, choice) for belief in plain.beliefs() for choice in plain.choices
                     if plain.is_safe(belief, choice)]
            if 4 <= len(pairs) <= 9:
                found = plain.greatest_pairs_of_all_sets("steady")
                self.assertEqual(found, plain.greatest_pairs("steady"), str(plain))
                self.assertEqual(menu(task), plain.listed(found), str(plain))
                checked += 1
        self.assertGreater(checked, 40)

    def test_plain(self):
        found = {}
        for sizes, count in (((2, 2), 120), ((3, 2), 60), ((2, 3), 30)):
            for _, plain, task in cases(132, count, ("a", "b", "c"), sizes, 3):
                told = menu(task)
                self.assertEqual(told, plain.listed(plain.greatest_pairs("steady")), str(plain))
                self.assertIs(ranks(task) is None, len(told) > 0, str(plain))
                self.assertIs(steady_keeper(task) is None, len(told) == 0, str(plain))
                found[min(len(told), 2)] = found.get(min(len(told), 2), 0) + 1
        self.assertTrue(all(found.get(size, 0) > 20 for size in range(3)), found)

    def test_plain_runs(self):
        """Whether there is a steady gatekeeper, found by looking at all runs up to eight events, without beliefs."""
        found = [0, 0]
        for _, plain, task in cases(133, 250, sizes=(2, 2), missing=3, ratio=3):
            expected = plain.can_stay_steady([()], 8)
            self.assertIs(len(menu(task)) > 0, expected, str(plain))
            found[expected] += 1
        self.assertGreater(min(found), 25)

    def test_all_keepers_with_two_rooms(self):
        found = [0, 0]
        for _, plain, task in cases(134, 150, missing=3, ratio=3):
            keepers = [Keeper(rooms) for size in (1, 2) for rooms in all_rooms(plain.blockable, plain.visible, size)]
            steady = any(first_fault(task, keeper, "steady") is None for keeper in keepers)
            self.assertIs(len(menu(task)) > 0, steady, str(plain))
            found[steady] += 1
        self.assertGreater(min(found), 10)

    def test_a_gatekeeper_is_steady_just_if_it_takes_choices_of_the_menu(self):
        found = [0, 0]
        for numbers, plain, task in cases(135, 150, ("a", "b", "c"), missing=5, ratio=3):
            told = {tuple(belief): choices for belief, choices in menu(task)}
            keepers = [some_rooms(numbers, plain.blockable, plain.visible, 2) for _ in range(4)]
            steady = steady_keeper(task)
            if steady is not None:
                keepers.append([(blocked, dict(steps)) for blocked, steps in steady.rooms])
            for rooms in keepers:
                expected = self.takes_from(plain, told, rooms)
                self.assertIs(first_fault(task, Keeper(rooms), "steady") is None, expected, (str(plain), rooms))
                found[expected] += 1
        self.assertGreater(min(found), 80)

    def takes_from(self, plain, told, rooms):
        """Whether a keeper takes a choice of the menu at each view of a passed run, which it can tell for ever."""
        waiting = [(0, ((0, 0),))]
        for room, belief in waiting:
            choice = blocked_at(rooms, [], room)
            if choice not in told.get(belief, []):
                return False
            for event, ahead in plain.nexts(belief, tuple(choice)).items():
                place = (rooms[room][1].get(event, room), ahead)
                if place not in waiting:
                    waiting.append(place)
        return True

    def test_order(self):
        """Choices by size, then in order; beliefs as breadth-first search finds them."""
        plant = Machine([{"a": 1, "b": 2, "c": 3}, {"a": 1}, {"a": 2}, {"a": 3}], [0, 2])
        task = Task(plant, Machine([{"a": 0, "b": 0, "c": 0}], []), ["c", "b", "a"], ["c", "b", "a"])
        told = menu(task)
        self.assertEqual(told[0], (START, [[], ["a"], ["b"], ["c"], ["a", "b"], ["a", "c"], ["b", "c"],
                                           ["a", "b", "c"]]))
        self.assertEqual(told[1:], [([(1, 0)], [[], ["b"], ["c"], ["b", "c"]]),
                                    ([(2, 0)], [[], ["a"], ["b"], ["c"], ["a", "b"], ["a", "c"], ["b", "c"],
                                                ["a", "b", "c"]])])

    def test_beliefs_that_only_a_later_choice_brings_about_come_later(self):
        plant = Machine([{"h": 1, "v": 2}, {"v": 3}, {"v": 4}, {"v": 5}, {"v": 4}, {"v": 2}], [2, 5])
        task = Task(plant, Machine([{"h": 0, "v": 0}], []), ["h"], ["v"])
        self.assertEqual([belief for belief, _ in menu(task)],
                         [START, [(2, 0), (3, 0)], [(2, 0)], [(4, 0), (5, 0)], [(4, 0)], [(2, 0), (4, 0)]])

    def test_a_rule_without_steps(self):
        plant = Machine([{"a": 0}], [0])
        for blockable, finals, expected in [(["a"], [0], [(START, [["a"]])]), ([], [0], []), (["a"], [], [])]:
            task = Task(Machine([{"a": 0}], finals), Machine([{}], []), blockable, ["a"])
            self.assertEqual(menu(task), expected)
        self.assertEqual(menu(Task(plant, plant, [], [])), [(START, [[]])])

    def test_no_blockable_and_no_visible_events(self):
        stop = Task(Machine([{"a": 1}, {}], [0]), Machine([{"a": 0}], []), [], [])
        self.assertEqual([menu(stop), steady_keeper(stop), ranks(stop)], [[], None, [(START, 0)]])
        self.assertEqual(menu(stop.with_blockable(["a"])), [(START, [["a"]])])
        self.assertEqual(steady_keeper(stop.with_blockable(["a"])), Keeper([(["a"], {})]))

    def test_steady_keepers(self):
        for _, plain, task in cases(136, 150, ("a", "b", "c"), (3, 2), 6, 3):
            keeper = steady_keeper(task)
            if keeper is not None:
                self.assertIsInstance(keeper, Keeper)
                self.assertIsNone(first_fault(task, keeper, "steady"), str(plain))


class JudgingMenus(unittest.TestCase):
    def test_what_menu_returns(self):
        for _, _, task in cases(141, 120, ("a", "b", "c"), (3, 2), 5, 3):
            told = menu(task)
            self.assertIs(judge_menu(task, told), len(told) > 0)
            self.assertIs(judge_menu(task, [(belief, choices[::-1]) for belief, choices in told[::-1]]), len(told) > 0)

    def test_plain(self):
        found = [0, 0]
        for numbers, plain, task in cases(142, 250, missing=6, ratio=3):
            told = menu(task)
            for _ in range(6):
                told = changed_pairs(numbers, plain, told)
                expected = plain.judge_pairs(told, "steady")
                found[expected] += 1
                self.assertIs(judge_menu(task, told), expected, (str(plain), told))
        self.assertGreater(min(found), 150)

    def test_less_than_the_menu(self):
        task = Task(PLANT, RULE, ["run"], ["fill", "run", "stop", "drain"])
        fill = ([(1, 1)], [["run"]])
        for told, expected in [
                ([fill, (START, [["run"]])], True), ([fill, (START, [["run"], []])], True), ([fill], False), ([], False),
                ([(START, [[]])], False), ([fill, (START, [])], False), ([fill, fill, (START, [[]])], False),
                ([fill, (START, [[], []])], False), ([([(1, 1)], [[]]), (START, [[]])], False),
                ([fill, (START, [["leak"]])], False), ([fill, (START, [[]]), ([], [[]])], False),
                ([fill, (START, [[]]), ([(9, 9)], [[]])], False), ([fill, (START, [["run", "run"]])], False),
                ([fill, (START, [[]]), ([(2, 2), (1, 1)], [["run"]])], False),
                ([fill, (START, [[]]), ([(1, 1), (2, 2)], [["run"]])], True),
                ([fill, (START, [[]]), ([(3, 3)], [[], ["run"]])], True)]:
            self.assertIs(judge_menu(task, told), expected, told)


class Ranks(unittest.TestCase):
    def test_what_ranks_returns(self):
        found = {}
        for sizes in ((2, 2), (3, 2)):
            for _, plain, task in cases(151, 500, ("a", "b", "c"), sizes, 4, 2):
                told = ranks(task)
                if told is not None:
                    self.assertIs(judge_ranks(task, told), True)
                    self.assertIs(plain.judge_ranks(told), True)
                    self.assertIs(judge_ranks(task, told[::-1]), True)
                    top = dict((tuple(belief), rank) for belief, rank in told)[((0, 0),)]
                    found[min(top, 2)] = found.get(min(top, 2), 0) + 1
        self.assertTrue(all(found.get(top, 0) > 5 for top in range(3)), found)

    def test_plain(self):
        found = [0, 0]
        for numbers, plain, task in cases(152, 250, missing=3, ratio=2):
            beliefs = plain.beliefs()
            told = ranks(task) or [(START, 1)]
            for _ in range(5):
                told = list(told)
                at = numbers.below(max(len(told), 1))
                belief = list(beliefs[numbers.below(len(beliefs))])
                kind = numbers.below(6)
                if kind == 0 or not told:
                    told.append((belief, numbers.below(4)))
                elif kind == 1:
                    del told[at]
                elif kind == 2:
                    told[at] = (told[at][0], numbers.below(5) - 1)
                elif kind == 3:
                    told[at] = (told[at][0] + [[], [(9, 9)], [(0, 0)]][numbers.below(3)], told[at][1])
                elif kind == 4:
                    told = [(other, numbers.below(3) + (other == START)) for other in map(list, beliefs)]
                else:
                    told = [(other, rank + 1) for other, rank in told[::-1]]
                expected = plain.judge_ranks(told)
                found[expected] += 1
                self.assertIs(judge_ranks(task, told), expected, (str(plain), told))
        self.assertGreater(min(found), 100)

    def test_wrong_lists(self):
        free = Task(PLANT, RULE, [], ["fill", "run", "stop", "drain"])
        fill = [(1, 1)]
        for told, expected in [
                ([(START, 1), (fill, 0)], True), ([(fill, 0), (START, 7)], True), ([(START, 1), (fill, 1)], False),
                ([(START, 0), (fill, 1)], False), ([(START, 0), (fill, -1)], False), ([(fill, 0)], False), ([], False),
                ([(START, 1)], False), ([(START, 1), (fill, 0), (fill, 0)], False), ([(START, 1), (fill, 0), ([], 0)], False),
                ([(START, 1), (fill, 0), ([(9, 9)], 0)], False), ([(START, 1), (fill, 0), ([(2, 2)], 0)], True),
                ([(START, 1), (fill, 0), ([(3, 3)], 2)], True), ([(START, 1), (fill, 0), ([(3, 3)], 1)], False),
                ([(START, 1), (fill, 0), ([(2, 2), (1, 1)], 0)], False)]:
            self.assertIs(judge_ranks(free, told), expected, told)
        self.assertIs(judge_ranks(free.with_blockable(["run"]), [(START, 1), (fill, 0)]), False)

    def test_a_task_with_a_steady_gatekeeper_has_no_ranks(self):
        for numbers, plain, task in cases(153, 60, missing=6, ratio=3):
            if menu(task):
                told = [(list(belief), numbers.below(5)) for belief in plain.beliefs()]
                self.assertIs(judge_ranks(task, told), False)


class WhatKeepersBelieve(unittest.TestCase):
    def test_belief_of_a_gatekeeper(self):
        """The belief at a view has the positions after the passed runs that end with the view."""
        for numbers, plain, task in cases(161, 60):
            rooms = some_rooms(numbers, plain.blockable, plain.visible, 2)
            for view in lists_up_to(plain.visible, 3):
                belief = START
                for at, event in enumerate(view):
                    choice = blocked_at(rooms, view[:at])
                    belief = belief_after(task, belief, choice, event) if belief and event not in choice else []
                ends = set()
                for run in lists_up_to(plain.events, 7):
                    passed = plain.is_allowed(run) and not any(
                        event in blocked_at(rooms, view_in(plain.visible, run[:at])) for at, event in enumerate(run))
                    if passed and tuple(view_in(plain.visible, run)) == view and run[-1:] == view[-1:]:
                        ends.add(task.position_after(list(run)))
                if view:
                    self.assertEqual(belief, sorted(ends), (str(plain), rooms, view))


if __name__ == "__main__":
    unittest.main()

"""The section of finishing.py, and what point [10] says of finishing gatekeepers that see little."""

import unittest

from seenbars.beliefs import menu
from seenbars.errors import NotVisible
from seenbars.finishing import (book, can_finish, greatest_seen, greatest_seen_keeper, judge_book, judge_losses,
                                losses)
from seenbars.greatest import greatest_passed
from seenbars.keepers import Keeper, first_fault, passed
from seenbars.machines import Machine
from seenbars.tasks import Task
from tests.plain import blocked_at, is_complete, is_run, lists_up_to, raised, some_of, view_in
from tests.searches import PlainTask, all_rooms
from tests.test_beliefs import cases, changed_pairs, task_of

PLANT = Machine([{"fill": 1}, {"run": 2, "leak": 3}, {"stop": 0}, {"run": 4, "drain": 0}, {"stop": 0}], [0])
RULE = Machine([{"fill": 1}, {"run": 2, "leak": 3}, {"stop": 0}, {"drain": 0}], [])
TRAP = Machine([{"a": 1, "b": 2}, {"c": 1}, {"c": 3}, {}], [3])
START = [(0, 0)]


def any_rule(events):
    return Machine([{event: 0 for event in events}], [])


class Books(unittest.TestCase):
    def test_all_sets_of_pairs(self):
        """The greatest set, found by looking at all sets of safe pairs where there are not too many."""
        checked = [0, 0]
        for _, plain, task in cases(171, 300, sizes=(2, 1), ratio=1):
            pairs = [(belief, choice) for belief in plain.beliefs() for choice in plain.choices
                     if plain.is_safe(belief, choice)]
            if 4 <= len(pairs) <= 9:
                found = plain.greatest_pairs_of_all_sets("finishing")
                self.assertEqual(found, plain.greatest_pairs("finishing"), str(plain))
                self.assertEqual(book(task), plain.listed(found), str(plain))
                checked[len(book(task)) > 0] += 1
        self.assertGreater(min(checked), 12)

    def test_plain(self):
        found = {}
        for sizes, count, missing in (((2, 2), 250, 3), ((3, 2), 80, 4), ((2, 3), 40, 5), ((4, 1), 60, 5)):
            for _, plain, task in cases(172, count, ("a", "b", "c"), sizes, missing):
                told = book(task)
                self.assertEqual(told, plain.listed(plain.greatest_pairs("finishing")), str(plain))
                self.assertIs(can_finish(task), len(told) > 0, str(plain))
                self.assertIs(losses(task) is None, len(told) > 0, str(plain))
                steady = {tuple(belief) for belief, _ in menu(task)}
                self.assertTrue({tuple(belief) for belief, _ in told} <= steady, str(plain))
                key = (min(len(told), 2), told != menu(task))
                found[key] = found.get(key, 0) + 1
        for key in [(0, False), (1, False), (2, False), (0, True), (1, True)]:
            self.assertGreater(found.get(key, 0), 3, found)

    def test_all_keepers_with_few_rooms(self):
        """In tasks as small as these, two rooms are enough if any gatekeeper is finishing."""
        found = [0, 0]
        for _, plain, task in cases(173, 150, missing=4, ratio=3):
            keepers = [Keeper(rooms) for size in (1, 2) for rooms in all_rooms(plain.blockable, plain.visible, size)]
            finishing = any(first_fault(task, keeper) is None for keeper in keepers)
            self.assertIs(can_finish(task), finishing, str(plain))
            found[finishing] += 1
        self.assertGreater(min(found), 25)

    def test_all_gatekeepers_of_short_views(self):
        """Gatekeepers as point [8] has them: a choice for each view of at most seven events, one after the other.

        Runs with three events must have a complete passed run with at most seven events that begins with them.
        """
        found = [0, 0]
        for _, plain, task in cases(174, 300, missing=4, ratio=3):
            if len(plain.visible) == 1 and len(plain.blockable) == 1:
                finishing = any(self.finishes(plain, choices) for choices in self.choices_for_views(plain, 8))
                self.assertIs(can_finish(task), finishing, str(plain))
                found[finishing] += 1
        self.assertGreater(min(found), 8)

    def choices_for_views(self, plain, many):
        if many == 0:
            yield []
        else:
            for choices in self.choices_for_views(plain, many - 1):
                yield from ([*choices, choice] for choice in plain.choices)

    def finishes(self, plain, choices):
        runs, shut = [()], set()
        for run in runs:
            if not is_run(plain.rule, run):
                return False
            if len(run) < 7:
                choice = choices[len(view_in(plain.visible, run))]
                runs.extend(run + (event,) for event in plain.events
                            if event not in choice and is_run(plain.plant, run + (event,)))
        for run in runs:
            if is_complete(plain.plant, run):
                shut.update(run[:at] for at in range(len(run) + 1))
        return all(run in shut for run in runs if len(run) <= 3)

    def test_a_gatekeeper_may_take_each_choice_in_turn(self):
        """Neither choice leads each position to an end, but each position has a way by one of them."""
        plant = Machine([{"u": 1, "v": 2}, {"a": 3, "s": 1}, {"b": 3, "s": 2}, {}], [3])
        rule = Machine([{"u": 1, "v": 2}, {"a": 0, "s": 1}, {"b": 0, "s": 2}], [])
        task = Task(plant, rule, ["a", "b"], ["s"])
        plain = PlainTask(([dict(row) for row in plant.states], plant.finals),
                          ([dict(row) for row in rule.states], []), ["a", "b"], ["s"])
        self.assertEqual(book(task), plain.listed(plain.greatest_pairs("finishing")))
        both = ([(1, 1), (2, 2)], [["a"], ["b"]])
        self.assertIs(judge_book(task, [(START, [[]]), ([(1, 1), (2, 2)], [[]])]), True)
        self.assertIs(judge_book(task, [(START, [[]]), both]), True)
        self.assertIs(judge_book(task, [(START, [[]]), (both[0], [["a"]])]), False)
        self.assertIs(judge_book(task, [(START, [[]]), (both[0], [["b"]])]), False)
        keeper = Keeper([([], {"s": 1}), (["a"], {"s": 2}), (["b"], {"s": 1})])
        self.assertIsNone(first_fault(task, keeper))

    def test_running_for_ever_without_an_end(self):
        task = Task(Machine([{"s": 0, "a": 1}, {}], [1]), any_rule(["s", "a"]), ["a"], ["s"])
        self.assertEqual(book(task), [(START, [[], ["a"]])])
        self.assertIs(judge_book(task, [(START, [["a"]])]), False)
        self.assertIs(judge_book(task, [(START, [["a"], []])]), True)
        ends_nowhere = Task(Machine([{"s": 0, "a": 1}, {}], []), any_rule(["s", "a"]), ["a"], ["s"])
        self.assertEqual([book(ends_nowhere), can_finish(ends_nowhere)], [[], False])

    def test_a_rule_without_steps(self):
        for blockable, finals, expected in [(["a"], [0], [(START, [["a"]])]), ([], [0], []), (["a"], [], [])]:
            for visible in ([], ["a"]):
                task = Task(Machine([{"a": 0}], finals), Machine([{}], []), blockable, visible)
                self.assertEqual(book(task), expected)
                self.assertIs(can_finish(task), expected != [])

    def test_a_rule_broken_ahead_is_unsafe_though_the_end_is_near(self):
        plant = Machine([{"h": 1, "b": 0}, {"b": 0}], [0])
        task = Task(plant, Machine([{"h": 1, "b": 0}, {}], []), ["b"], [])
        self.assertEqual(book(task), [])
        self.assertEqual(book(task.with_visible(["h"])), [])
        self.assertEqual(book(task.with_blockable(["h"])), [(START, [["h"]])])


class JudgingBooks(unittest.TestCase):
    def test_what_book_returns(self):
        for _, _, task in cases(181, 150, ("a", "b", "c"), (3, 2), 5, 3):
            told = book(task)
            self.assertIs(judge_book(task, told), len(told) > 0)
            self.assertIs(judge_book(task, [(belief, choices[::-1]) for belief, choices in told[::-1]]), len(told) > 0)

    def test_plain(self):
        found = [0, 0, 0]
        for numbers, plain, task in cases(182, 300, missing=6, ratio=3):
            told = menu(task) if numbers.below(2) else book(task)
            for _ in range(6):
                expected = plain.judge_pairs(told, "finishing")
                found[expected] += 1
                found[2] += not expected and plain.judge_pairs(told, "steady")
                self.assertIs(judge_book(task, told), expected, (str(plain), told))
                told = changed_pairs(numbers, plain, told)
        self.assertGreater(min(found), 40)

    def test_wrong_lists(self):
        task = Task(PLANT, RULE, ["run"], ["fill", "run", "stop", "drain"])
        fill = ([(1, 1)], [["run"]])
        for told, expected in [
                ([fill, (START, [["run"]])], True), ([fill, (START, [["run"], []])], True), ([fill], False), ([], False),
                ([(START, [[]])], False), ([fill, (START, [])], False), ([fill, fill, (START, [[]])], False),
                ([fill, (START, [[], []])], False), ([([(1, 1)], [[]]), (START, [[]])], False),
                ([fill, (START, [["leak"]])], False), ([fill, (START, [[]]), ([], [[]])], False),
                ([fill, (START, [[]]), ([(9, 9)], [[]])], False), ([fill, (START, [["run", "run"]])], False),
                ([fill, (START, [[]]), ([(2, 2), (1, 1)], [["run"]])], False),
                ([fill, (START, [[]]), ([(1, 1), (2, 2)], [["run"]])], True),
                ([fill, (START, [[]]), ([(3, 3)], [[], ["run"]])], True)]:
            self.assertIs(judge_book(task, told), expected, told)

    def test_invisible_events_must_go_on(self):
        """Point (b): the plant may go round unseen, with no end and nothing to be seen."""
        lost = Task(TRAP, any_rule("abc"), ["a"], [])
        self.assertEqual(book(lost), [(START, [["a"]])])
        self.assertIs(judge_book(lost, [(START, [[]])]), False)
        self.assertIs(judge_book(lost, [(START, [["a"], []])]), False)
        self.assertIs(judge_book(lost, [(START, [["a"]])]), True)


def changed_losses(numbers, plain, told):
    """A list of tuples (belief, choice, reason) with something changed, so that it may be wrong."""
    told = [(list(belief), None if choice is None else list(choice), reason) for belief, choice, reason in told]
    at = numbers.below(max(len(told), 1))
    beliefs = plain.beliefs()
    belief = list(beliefs[numbers.below(len(beliefs))])
    choice = (plain.choices + [None, ("zz",)])[numbers.below(len(plain.choices) + 2)]
    choice = None if choice is None else list(choice)
    reasons = plain.positions + plain.events + [(9, 9), "zz"]
    reason = reasons[numbers.below(len(reasons))]
    kind = numbers.below(8)
    if kind == 0 or not told:
        told.insert(at, (belief, choice, reason))
    elif kind == 1:
        del told[at]
    elif kind == 2:
        told[at] = (told[at][0], choice, told[at][2])
    elif kind == 3:
        told[at] = (told[at][0], told[at][1], reason)
    elif kind == 4:
        told.append(told[at])
    elif kind == 5:
        told.append(told.pop(at))
    elif kind == 6:
        told[at] = (told[at][0] + [[], [(9, 9)], belief][numbers.below(3)], told[at][1], told[at][2])
    else:
        told[at] = (told[at][0], None, told[at][0][0] if told[at][0] else (0, 0))
    return told


class Losses(unittest.TestCase):
    def test_what_losses_returns(self):
        found = {}
        for sizes in ((2, 2), (3, 2), (4, 1)):
            for _, plain, task in cases(191, 130, ("a", "b", "c"), sizes, 4, 3):
                told = losses(task)
                self.assertIs(told is None, can_finish(task))
                if told is None:
                    continue
                self.assertIs(judge_losses(task, told), True, str(plain))
                self.assertIs(plain.judge_losses(told), True, str(plain))
                self.assertIs(judge_losses(task, told + told), True, str(plain))
                for _, choice, reason in told:
                    kind = "belief" if choice is None else type(reason)
                    found[kind] = found.get(kind, 0) + 1
        self.assertTrue(all(found.get(kind, 0) > 10 for kind in ("belief", str, tuple)), found)

    def test_plain(self):
        found = [0, 0]
        for numbers, plain, task in cases(192, 300, missing=4, ratio=3):
            told = losses(task) or []
            for _ in range(6):
                told = changed_losses(numbers, plain, told)
                expected = plain.judge_losses(told)
                found[expected] += 1
                self.assertIs(judge_losses(task, told), expected, (str(plain), told))
        self.assertGreater(min(found), 100)

    def test_each_entry_that_is_right_for_the_first(self):
        """Which single entries are right first, in tasks in which nothing is lost yet."""
        found = [0, 0]
        for _, plain, task in cases(193, 60, missing=4, ratio=2):
            if len(plain.choices) > 1:
                continue
            for choice in ([], None):
                for reason in plain.positions + plain.events:
                    expected = plain.judge_losses([(START, choice, reason)])
                    self.assertIs(judge_losses(task, [(START, choice, reason)]), expected, (str(plain), choice, reason))
                    found[expected] += 1
        self.assertGreater(min(found), 20)

    def test_no_list_shows_it_where_a_gatekeeper_is_finishing(self):
        for numbers, plain, task in cases(194, 120, missing=6, ratio=3):
            if can_finish(task):
                told = []
                for belief in plain.beliefs():
                    for choice in plain.choices + [None]:
                        for reason in plain.positions + plain.events:
                            if plain.is_right(told, list(belief), choice, reason):
                                told.append((list(belief), None if choice is None else list(choice), reason))
                                break
                self.assertIs(judge_losses(task, told), False, str(plain))

    def test_wrong_lists(self):
        lost = Task(TRAP, any_rule("abc"), [], [])
        risky = lost.with_blockable(["a"])
        right = (START, [], (1, 0))
        for told, expected in [
                ([right], True), ([right, right], True), ([], False), ([(START, [], (0, 0))], False),
                ([(START, [], (2, 0))], False), ([(START, [], (9, 9))], False), ([(START, [], "a")], False),
                ([(START, ["a"], (1, 0))], False), ([([], [], (1, 0)), right], False), ([right, ([], [], (1, 0))], False),
                ([right, ([(0, 0), (0, 0)], [], (1, 0))], False), ([right, ([(1, 0), (0, 0)], [], (1, 0))], False),
                ([([(0, 0), (1, 0)], [], (1, 0)), right], True), ([([(1, 0)], [], (1, 0))], False),
                ([(START, None, (0, 0))], False), ([right, (START, None, (0, 0))], True),
                ([right, (START, None, (1, 0))], False), ([right, (START, None, "a")], False),
                ([([(0, 0), (1, 0)], None, (1, 0)), right], True), ([([(0, 0), (1, 0)], None, (0, 0)), right], False)]:
            self.assertIs(judge_losses(lost, told), expected, told)
        for told in [[right], [right, (START, ["a"], (1, 0))], [right, (START, None, (0, 0))]]:
            self.assertIs(judge_losses(risky, told), False, told)

    def test_events_as_reasons(self):
        """After `a` the rule can be broken; after `b` there is no end."""
        plant = Machine([{"a": 1, "b": 2, "c": 3}, {"d": 1}, {"b": 2}, {}], [3])
        task = Task(plant, Machine([{"a": 1, "b": 2, "c": 3}, {}, {"b": 2}, {}], []), ["b"], ["a", "b", "c"])
        first, second = ([(1, 1)], [], (1, 1)), ([(1, 1)], ["b"], (1, 1))
        for told, expected in [
                ([first, second, (START, [], "a"), (START, ["b"], "a")], True),
                ([first, second, (START, [], "a")], False), ([first, (START, [], "a"), (START, ["b"], "a")], False),
                ([first, second, (START, [], "a"), (START, ["b"], "c")], False),
                ([(START, [], "a"), (START, ["b"], "a"), first, second], False),
                ([([(2, 2)], None, (2, 2)), (START, [], "b")], False),
                ([([(2, 2)], None, (2, 2)), (START, [], "b"), first, second, (START, ["b"], "a")], True),
                ([([(2, 2)], None, (2, 2)), (START, ["b"], "b")], False),
                ([([(2, 2)], [], (2, 2))], False), ([([(2, 2)], ["b"], (2, 2))], False),
                ([first, second, (START, [], "d"), (START, ["b"], "a")], False)]:
            self.assertIs(judge_losses(task, told), expected, told)

    def test_a_seen_going_on_that_breaks_the_rule_is_a_going_on(self):
        """At the position after `h` the visible `v` breaks the rule: that is a reason there, but not at the start."""
        plant = Machine([{"h": 1}, {"v": 0}], [])
        task = Task(plant, Machine([{"h": 1}, {}], []), [], ["v"])
        self.assertEqual(book(task), [])
        self.assertIs(judge_losses(task, [(START, [], (1, 1))]), True)
        self.assertIs(judge_losses(task, [(START, [], (0, 0))]), False)
        self.assertIs(judge_losses(task, [(START, None, (0, 0))]), True)

    def test_ways_may_use_pairs_that_are_unsafe_but_not_lost_yet(self):
        plant = Machine([{"v": 1}, {"a": 2, "b": 2}, {}], [2])
        task = Task(plant, Machine([{"v": 1}, {"a": 0}], []), [], ["v"])
        self.assertEqual(book(task), [])
        self.assertIs(judge_losses(task, [(START, None, (0, 0))]), False)
        self.assertIs(judge_losses(task, [([(1, 1)], [], (1, 1)), (START, None, (0, 0))]), True)
        self.assertIs(judge_losses(task, [([(1, 1)], [], (1, 1)), (START, [], "v")]), True)


class GreatestSeen(unittest.TestCase):
    def seeing(self, seed, count, sizes=(2, 2), events=("a", "b"), missing=4):
        """Tasks whose blockable events are all visible."""
        for numbers, plain, _ in cases(seed, count, events, sizes, missing, 3):
            visible = sorted(set(some_of(numbers, plain.events) + plain.blockable))
            plain = PlainTask(plain.plant, plain.rule, plain.blockable, visible)
            yield plain, task_of(plain)

    def test_finishing_and_passes_what_it_says(self):
        found = [0, 0]
        for sizes in ((2, 2), (3, 2), (4, 1)):
            for plain, task in self.seeing(201, 60, sizes, ("a", "b", "c")):
                machine, keeper = greatest_seen(task), greatest_seen_keeper(task)
                found[machine is None] += 1
                self.assertIs(machine is None, not can_finish(task))
                self.assertIs(keeper is None, machine is None)
                if machine is not None:
                    self.assertIsNone(first_fault(task, keeper), str(plain))
                    self.assertEqual(passed(task, keeper), machine, str(plain))
                    self.assertTrue(machine.within(greatest_passed(task)), str(plain))
        self.assertGreater(min(found), 30)

    def test_all_keepers_with_two_rooms(self):
        """Each finishing keeper passes no more."""
        found = [0, 0, 0]
        for plain, task in self.seeing(202, 80):
            machine = greatest_seen(task)
            for size in (1, 2):
                for rooms in list(all_rooms(plain.blockable, plain.visible, size))[:80]:
                    keeper = Keeper(rooms)
                    if first_fault(task, keeper) is None:
                        self.assertIsNotNone(machine, str(plain))
                        through = passed(task, keeper)
                        self.assertTrue(through.within(machine), str(plain))
                        found[through == machine] += 1
            found[2] += machine is None
        self.assertGreater(min(found), 20)

    def test_runs_of_the_book(self):
        """A run is passed just if no event of it is blocked by all choices of the book for the belief."""
        for plain, task in self.seeing(203, 60):
            machine = greatest_seen(task)
            if machine is None:
                continue
            told = {tuple(belief): choices for belief, choices in book(task)}
            for run in lists_up_to(plain.events, 6):
                self.assertIs(machine.has(list(run)), self.goes(plain, told, run), str(plain))
                self.assertIs(machine.completes(list(run)), machine.has(list(run)) and is_complete(plain.plant, run))

    def goes(self, plain, told, run):
        belief = ((0, 0),)
        for at, event in enumerate(run):
            if not is_run(plain.plant, run[:at + 1]):
                return False
            if event in plain.visible:
                choices = [tuple(choice) for choice in told[belief] if event not in choice]
                if not choices:
                    return False
                belief = plain.after(belief, choices[0], event)
        return True

    def test_all_events_visible(self):
        """Then it is the greatest one of all."""
        for _, plain, task in cases(204, 60, ("a", "b", "c"), (3, 2), 5, 3):
            full = task.with_visible(plain.events)
            self.assertEqual(greatest_seen(full), greatest_passed(task), str(plain))

    def test_not_visible(self):
        task = Task(PLANT, RULE, ["run", "leak", "drain"], ["drain", "fill"])
        for call in (greatest_seen, greatest_seen_keeper):
            self.assertEqual(raised(self, NotVisible, call, task), "leak")
            self.assertEqual(raised(self, NotVisible, call, task.with_visible(["leak"])), "drain")
            self.assertEqual(raised(self, NotVisible, call, Task(TRAP, any_rule("a"), ["a"], ["b", "c"])), "a")
            self.assertIsNone(call(Task(TRAP, any_rule("ab"), [], [])))

    def test_a_blockable_event_that_no_allowed_run_has(self):
        plant = Machine([{"a": 1, "b": 0}, {"c": 1}], [0])
        task = Task(plant, Machine([{"b": 0}], []), ["a", "c"], ["a", "c"])
        self.assertEqual(greatest_seen(task), Machine([{"b": 0}], [0]))
        self.assertEqual(raised(self, NotVisible, greatest_seen, task.with_visible(["a"])), "c")
        self.assertEqual(blocked_at([(["a"], {})], []), greatest_seen_keeper(task).blocked_after([]))


if __name__ == "__main__":
    unittest.main()

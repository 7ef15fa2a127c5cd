"""The section of greatest.py, and what point [10] says of gatekeepers that see every event."""

import unittest

from seenbars.greatest import greatest_keeper, greatest_passed, judge_kept, judge_removal, kept, removal
from seenbars.keepers import Keeper, first_fault, passed
from seenbars.machines import Machine
from seenbars.tasks import Task
from tests.plain import Numbers, is_complete, lists_up_to
from tests.searches import all_rooms, some_plain_task, subsets

PLANT = Machine([{"fill": 1}, {"run": 2, "leak": 3}, {"stop": 0}, {"run": 4, "drain": 0}, {"stop": 0}], [0])
RULE = Machine([{"fill": 1}, {"run": 2, "leak": 3}, {"stop": 0}, {"drain": 0}], [])


def task_of(plain):
    return Task(Machine(*plain.plant), Machine(*plain.rule), plain.blockable, plain.visible)


def cases(seed, count, events=("a", "b"), sizes=(2, 2)):
    numbers = Numbers(seed)
    for _ in range(count):
        plain = some_plain_task(numbers, events, sizes)
        yield numbers, plain, task_of(plain)


class Kept(unittest.TestCase):
    def test_plain(self):
        found = {}
        for sizes in ((2, 2), (3, 2), (2, 3)):
            for _, plain, task in cases(111, 100, ("a", "b", "c"), sizes):
                told = kept(task)
                self.assertEqual(told, plain.kept(), str(plain))
                kind = "all" if told == plain.positions else "none" if not told else "some"
                found[kind, (0, 0) in told] = found.get((kind, (0, 0) in told), 0) + 1
        for key in (("all", True), ("none", False), ("some", True), ("some", False)):
            self.assertGreater(found.get(key, 0), 5, found)

    def test_visible_events_do_not_matter(self):
        for _, plain, task in cases(112, 30, ("a", "b", "c")):
            for visible in ([], plain.events):
                other = task.with_visible(visible)
                self.assertEqual(kept(other), kept(task))
                self.assertEqual(greatest_passed(other), greatest_passed(task))
                self.assertEqual(greatest_keeper(other) is None, greatest_keeper(task) is None)
                self.assertTrue(judge_kept(other, kept(task)) == ((0, 0) in kept(task)))
                self.assertTrue(judge_removal(other, removal(task)) == ((0, 0) not in kept(task)))

    def test_judge(self):
        found = [0, 0]
        for numbers, plain, task in cases(113, 60, ("a", "b", "c")):
            for told in subsets(plain.positions):
                expected = (0, 0) in told and plain.stays(told)
                found[expected] += 1
                for order in (list(told), list(told)[::-1] + list(told)):
                    self.assertIs(judge_kept(task, order), expected, (str(plain), told))
                for strange in ((0, 7), (7, 0), (-1, 0)):
                    self.assertIs(judge_kept(task, list(told) + [strange]), False)
            if (0, 0) in kept(task):
                self.assertIs(judge_kept(task, kept(task)), True)
        self.assertGreater(min(found), 30)

    def test_judge_takes_less_than_the_greatest_set(self):
        plant = Machine([{"a": 1}, {"b": 2}, {}], [0, 2])
        task = Task(plant, Machine([{"a": 0, "b": 0}], []), ["a"], [])
        self.assertEqual(kept(task), [(0, 0), (1, 0), (2, 0)])
        self.assertIs(judge_kept(task, [(0, 0)]), True)
        self.assertIs(judge_kept(task, [(1, 0), (2, 0)]), False)
        self.assertIs(judge_kept(task, []), False)

    def test_an_end_must_be_reached_within(self):
        plant = Machine([{"a": 1}, {"a": 2}, {}], [2])
        task = Task(plant, Machine([{"a": 0}], []), ["a"], [])
        self.assertIs(judge_kept(task, [(0, 0), (1, 0)]), False)
        self.assertIs(judge_kept(task, [(0, 0), (2, 0)]), False)
        self.assertIs(judge_kept(task, [(2, 0), (1, 0), (0, 0), (1, 0)]), True)


class Removal(unittest.TestCase):
    def test_lists_just_what_is_not_kept(self):
        found = {}
        for sizes in ((2, 2), (3, 2)):
            for _, plain, task in cases(114, 120, ("a", "b", "c"), sizes):
                told = removal(task)
                places = [position for position, _ in told]
                self.assertEqual(sorted(places + kept(task)), plain.positions, str(plain))
                self.assertIs(judge_removal(task, told), (0, 0) in places)
                self.assertIs(plain.judge_removal(told), (0, 0) in places)
                for at in range(len(told)):
                    # Each entry is right after those before it.
                    self.assertTrue(plain.judge_removal(told[:at + 1]) or (0, 0) not in places[:at + 1])
                for _, reason in told:
                    found[reason is None] = found.get(reason is None, 0) + 1
        self.assertGreater(min(found[True], found[False]), 20)

    def test_judge(self):
        found = [0, 0]
        for numbers, plain, task in cases(115, 400):
            told = removal(task)
            for _ in range(4):
                told = self.changed(numbers, plain, told)
                expected = plain.judge_removal(told)
                found[expected] += 1
                self.assertIs(judge_removal(task, told), expected, (str(plain), told))
        self.assertGreater(min(found), 60)

    def changed(self, numbers, plain, told):
        """The list with an entry less, more or moved."""
        told = list(told)
        at = numbers.below(len(told) + 1)
        kind = numbers.below(4)
        position = (plain.positions + [(9, 9)])[numbers.below(len(plain.positions) + 1)]
        reason = ([None, "", "zz"] + plain.events)[numbers.below(3 + len(plain.events))]
        if kind == 0 or not told:
            told.insert(at, (position, reason))
        elif kind == 1:
            del told[at - 1]
        elif kind == 2:
            told.append(told.pop(at - 1))
        else:
            told[at - 1] = (told[at - 1][0], reason)
        return told

    def test_reasons(self):
        plant = Machine([{"a": 1, "b": 2}, {"c": 1}, {}], [2])
        rule = Machine([{"a": 0, "b": 0, "c": 0}], [])
        task = Task(plant, rule, ["b"], [])
        self.assertEqual(removal(task), [((1, 0), None), ((0, 0), "a")])
        for told, expected in [
                ([((1, 0), None), ((0, 0), "a")], True), ([((0, 0), "a"), ((1, 0), None)], False),
                ([((0, 0), "a")], False), ([((1, 0), None)], False), ([], False), ([((0, 0), None)], False),
                ([((1, 0), None), ((0, 0), "b")], False), ([((1, 0), None), ((0, 0), "c")], False),
                ([((1, 0), None), ((0, 0), "other")], False), ([((1, 0), "c"), ((0, 0), "a")], False),
                ([((1, 0), None), ((1, 0), None), ((0, 0), "a")], False),
                ([((1, 0), None), ((0, 0), "a"), ((2, 0), None)], False),
                ([((1, 0), None), ((0, 0), "a"), ((3, 0), None)], False)]:
            self.assertIs(judge_removal(task, told), expected, told)

    def test_a_blockable_event_is_no_reason_even_if_it_breaks_the_rule(self):
        task = Task(Machine([{"a": 0}], []), Machine([{}], []), ["a"], [])
        self.assertIs(judge_removal(task, [((0, 0), "a")]), False)
        self.assertIs(judge_removal(task, [((0, 0), None)]), True)
        self.assertIs(judge_removal(task.with_blockable([]), [((0, 0), "a")]), True)


class Greatest(unittest.TestCase):
    def test_plain(self):
        found = [0, 0]
        for sizes in ((2, 2), (3, 2)):
            for _, plain, task in cases(116, 50, ("a", "b"), sizes):
                machine, keeper, places = greatest_passed(task), greatest_keeper(task), plain.kept()
                found[machine is None] += 1
                self.assertIs(machine is None, (0, 0) not in places)
                self.assertIs(keeper is None, machine is None)
                if machine is None:
                    continue
                full = task.with_visible(plain.events)
                self.assertEqual(passed(full, keeper), machine)
                self.assertIsNone(first_fault(full, keeper))
                for run in lists_up_to(plain.events, 6):
                    stays = all(plain.is_allowed(run[:at]) and task.position_after(list(run[:at])) in places
                                for at in range(len(run) + 1))
                    self.assertIs(machine.has(list(run)), stays, str(plain))
                    self.assertIs(machine.completes(list(run)), stays and is_complete(plain.plant, run), str(plain))
        self.assertGreater(min(found), 20)

    def test_all_keepers_with_two_rooms(self):
        """Each finishing keeper passes no more, and there is none if the start is not kept."""
        found = [0, 0]
        for _, plain, task in cases(117, 40):
            full = task.with_visible(plain.events)
            machine = greatest_passed(task)
            keepers = [Keeper(rooms) for size in (1, 2) for rooms in all_rooms(plain.blockable, plain.events, size)]
            finishing = [keeper for keeper in keepers[::1 + len(keepers) // 60] if first_fault(full, keeper) is None]
            found[len(finishing) > 0] += 1
            if machine is None:
                self.assertEqual(finishing, [], str(plain))
            for keeper in finishing:
                self.assertTrue(passed(full, keeper).within(machine), str(plain))
        self.assertGreater(min(found), 5)

    def test_a_rule_without_steps(self):
        for finals, blockable, start in [([0], ["a"], True), ([], ["a"], False), ([0], [], False)]:
            task = Task(Machine([{"a": 0}], finals), Machine([{}], []), blockable, [])
            self.assertEqual(kept(task), [(0, 0)] if start else [])
            self.assertEqual(greatest_passed(task), Machine([{}], [0]) if start else None)

    def test_all_events_blockable_or_none(self):
        found = {}
        for _, plain, task in cases(118, 150, ("a", "b", "c"), (2, 2)):
            for blockable in (plain.events, []):
                machine = greatest_passed(task.with_blockable(blockable))
                key = (len(blockable) > 0, machine is not None)
                found[key] = found.get(key, 0) + 1
                if machine is None:
                    continue
                self.assertTrue(machine.within(task.allowed))
                if not blockable:
                    self.assertEqual(machine, task.plant)
                else:
                    # Here a position is kept just if it can come to an end at all.
                    ends = {place for place in plain.positions
                            if any(plain.is_final(other) for other in plain.within(place, plain.positions))}
                    self.assertEqual(kept(task.with_blockable(blockable)), sorted(ends))
        self.assertTrue(all(found.get((some, fine), 0) > 3 for some in (True, False) for fine in (True, False)), found)

    def test_by_name(self):
        task = Task(PLANT, RULE, ["run"], [])
        self.assertEqual(kept(task=task), [(0, 0), (1, 1), (2, 2), (3, 3)])
        self.assertEqual(judge_kept(told=kept(task), task=task), True)
        self.assertEqual(judge_removal(told=removal(task=task), task=task), False)
        self.assertEqual(passed(task.with_visible(PLANT.events), greatest_keeper(task=task)), task.allowed)
        self.assertEqual(greatest_passed(task=task), task.allowed)


if __name__ == "__main__":
    unittest.main()

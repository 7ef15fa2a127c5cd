"""Points [4] and [5] and the section of machines.py."""

import unittest
from unittest import mock

from seenbars.errors import InvalidFinal, InvalidName, InvalidStep, NotPossible
from seenbars.machines import Machine, first_unlike, seen_machine
from tests.plain import (BAD_NAMES, Numbers, events_in, first_unlike_by_pairs, is_complete, is_run, least_by_rounds,
                         least_states, lists_up_to, raised, small_specs, some_spec, view_in)

PLANT = [{"fill": 1}, {"run": 2, "leak": 3}, {"stop": 0}, {"run": 4, "drain": 0}, {"stop": 0}]


def two_state_specs():
    return list(small_specs(["a", "b"], 2))


class Building(unittest.TestCase):
    def test_one_state_without_steps(self):
        for finals in ([], [0], [0, 0]):
            machine = Machine([{}], finals)
            self.assertEqual(machine.states, [[]])
            self.assertEqual(machine.finals, sorted(set(finals)))
            self.assertEqual(machine.events, [])
            self.assertEqual(len(machine), 1)
            self.assertIs(machine.has([]), True)
            self.assertIs(machine.completes([]), finals != [])
            self.assertIs(machine.has(["a"]), False)
            self.assertEqual(machine.state_after([]), 0)

    def test_states_that_are_not_reached(self):
        machine = Machine([{"b": 2}, {"c": 0}, {}, {"a": 3}], [1, 3])
        self.assertEqual(machine.states, [[("b", 1)], []])
        self.assertEqual(machine.finals, [])
        self.assertEqual(machine.events, ["b"])

    def test_states_that_are_alike(self):
        self.assertEqual(Machine([{"a": 1}, {"a": 2}, {"a": 0}], [2, 0, 1]).states, [[("a", 0)]])
        self.assertEqual(Machine([{"a": 1}, {"a": 2}, {"a": 0}], [0, 1]).states,
                         [[("a", 1)], [("a", 2)], [("a", 0)]])

    def test_runs_tell_states_apart_that_complete_nothing(self):
        machine = Machine([{"a": 1, "b": 2}, {"a": 1}, {}], [])
        self.assertEqual(machine.states, [[("a", 1), ("b", 2)], [("a", 1)], []])

    def test_numbers_as_first_reached(self):
        machine = Machine([{"b": 1, "a": 2}, {"c": 3}, {"d": 4}, {"a": 3}, {"b": 4}], [3])
        self.assertEqual(machine.states, [[("a", 1), ("b", 2)], [("d", 3)], [("c", 4)], [("b", 3)], [("a", 4)]])
        self.assertEqual(machine.finals, [4])

    def test_finals_in_any_order_and_twice(self):
        machine = Machine([{"a": 1}, {"a": 2}, {"a": 2, "b": 1}], [2, 0, 2, 0])
        self.assertEqual(machine.finals, [0, 2])
        self.assertEqual(machine, Machine([{"a": 1}, {"a": 2}, {"a": 2, "b": 1}], [0, 2]))

    def test_twenty_states_and_five_events(self):
        events = ["a", "b", "c", "d", "e"]
        states = [{event: (state * (at + 2) + 1) % 20 for at, event in enumerate(events)} for state in range(20)]
        machine = Machine(states, [19, 3])
        self.assertEqual((machine.states, machine.finals), (machine.states, machine.finals))
        self.assertEqual(machine.events, events)
        chain = Machine([{"a": at + 1} for at in range(19)] + [{}], [19])
        self.assertEqual(chain.states, [[("a", at + 1)] for at in range(19)] + [[]])
        self.assertEqual(chain.finals, [19])
        self.assertIs(chain.completes(["a"] * 19), True)
        self.assertIs(chain.has(["a"] * 20), False)

    def test_longest_and_shortest_names(self):
        self.assertEqual(Machine([{"abcdefgh": 0, "z": 0}], []).events, ["abcdefgh", "z"])

    def test_least_states_of_all_small_machines(self):
        for spec in two_state_specs():
            machine = Machine(*spec)
            self.assertEqual((machine.states, machine.finals), least_states(spec), spec)
            self.assertEqual(len(machine), len(machine.states))

    def test_least_states_of_larger_machines(self):
        numbers = Numbers(5)
        for at in range(150):
            spec = some_spec(numbers, ["a", "b"], 3 + at % 4, missing=2 + at % 4)
            machine = Machine(*spec)
            self.assertEqual((machine.states, machine.finals), least_states(spec), spec)
            self.assertEqual(machine.events, sorted({event for row in machine.states for event, _ in row}))

    def test_least_states_of_the_largest_machines(self):
        numbers = Numbers(12)
        for at in range(1000):
            spec = some_spec(numbers, ["a", "b"], 20, missing=[30, 1000][at % 2])
            machine = Machine(*spec)
            self.assertEqual((machine.states, machine.finals), least_by_rounds(spec), spec)

    def test_least_states_may_be_passed_back(self):
        numbers = Numbers(6)
        for _ in range(50):
            machine = Machine(*some_spec(numbers, ["a", "b", "c"], 6))
            again = Machine([dict(row) for row in machine.states], machine.finals)
            self.assertEqual((again.states, again.finals), (machine.states, machine.finals))


class BuildingErrors(unittest.TestCase):
    def test_names(self):
        for name in BAD_NAMES:
            self.assertEqual(raised(self, InvalidName, Machine, [{"a": 0}, {name: 0}], []), name)

    def test_steps(self):
        self.assertEqual(raised(self, InvalidStep, Machine, [{"a": 0}, {"b": 2}], []), (1, "b"))
        self.assertEqual(raised(self, InvalidStep, Machine, [{"a": -1}], []), (0, "a"))
        self.assertEqual(raised(self, InvalidStep, Machine, [{"a": 1}], [7]), (0, "a"))

    def test_finals(self):
        self.assertEqual(raised(self, InvalidFinal, Machine, [{}], [0, 1, -1]), 1)
        self.assertEqual(raised(self, InvalidFinal, Machine, [{}, {}], [1, -1, 2]), -1)

    def test_order(self):
        self.assertEqual(raised(self, InvalidName, Machine, [{"c": 0, "B": 9, "A": 9}, {"": 0}], [5]), "A")
        self.assertEqual(raised(self, InvalidStep, Machine, [{"c": 9, "a": 9, "b": 9}], []), (0, "a"))
        self.assertEqual(raised(self, InvalidStep, Machine, [{"a": 9, "b9": 0}, {"": 0}], []), (0, "a"))
        self.assertEqual(raised(self, InvalidName, Machine, [{"a": 0, "b9": 9, "c": 9}], []), "b9")
        self.assertEqual(raised(self, InvalidStep, Machine, [{"a": 0}, {"a": 5}, {"A": 0}], [9]), (1, "a"))

    def test_states_that_are_not_reached_are_checked(self):
        self.assertEqual(raised(self, InvalidStep, Machine, [{}, {"a": 2}], []), (1, "a"))
        self.assertEqual(raised(self, InvalidName, Machine, [{}, {"a!": 0}], []), "a!")


class Asking(unittest.TestCase):
    def test_runs_by_a_plain_walk(self):
        for spec in two_state_specs()[::5]:
            machine = Machine(*spec)
            for run in lists_up_to(["a", "b", "c"], 4):
                run = list(run)
                self.assertIs(machine.has(run), is_run(spec, run))
                self.assertIs(run in machine, is_run(spec, run))
                self.assertIs(machine.completes(run), is_complete(spec, run))

    def test_state_after(self):
        machine = Machine(PLANT, [0])
        self.assertEqual(machine.state_after([]), 0)
        self.assertEqual(machine.state_after(["fill", "leak", "run"]), 3)
        self.assertEqual(raised(self, NotPossible, machine.state_after, ["run"]), 0)
        self.assertEqual(raised(self, NotPossible, machine.state_after, ["fill", "leak", "leak", "no"]), 2)
        for run in lists_up_to(machine.events, 5):
            state, at = 0, 0
            while at < len(run) and run[at] in dict(machine.states[state]):
                state, at = dict(machine.states[state])[run[at]], at + 1
            if at == len(run):
                self.assertEqual(machine.state_after(list(run)), state)
            else:
                self.assertEqual(raised(self, NotPossible, machine.state_after, list(run)), at)

    def test_strings_that_are_no_names(self):
        machine = Machine(PLANT, [0])
        for name in BAD_NAMES + ["toolongname", "fill ", "FILL"]:
            self.assertIs(machine.has([name]), False)
            self.assertIs(machine.has(["fill", name]), False)
            self.assertIs(machine.completes([name]), False)
            self.assertIs([name] in machine, False)
            self.assertEqual(raised(self, NotPossible, machine.state_after, ["fill", name, "run"]), 1)


class Equality(unittest.TestCase):
    def test_other_things(self):
        machine = Machine([{}], [])
        for thing in (None, 0, 1, True, "x", [], [[]], {}, (), [[[]]], object(), mock.ANY, Machine):
            self.assertIs(machine == thing, False)
            self.assertIs(machine != thing, True)

    def test_final_states_count(self):
        self.assertNotEqual(Machine([{}], []), Machine([{}], [0]))
        self.assertEqual(Machine([{}], [0]), Machine([{}, {}], [0]))

    def test_equal_and_first_unlike_of_all_small_pairs(self):
        specs = two_state_specs()
        for at in range(0, len(specs) * len(specs), 29):
            one, other = specs[at % len(specs)], specs[at // len(specs)]
            expected = None
            for run in lists_up_to(["a", "b"], 4):
                if (is_run(one, run), is_complete(one, run)) != (is_run(other, run), is_complete(other, run)):
                    expected = list(run)
                    break
            left, right = Machine(*one), Machine(*other)
            self.assertEqual(first_unlike(left, right), expected, (one, other))
            self.assertEqual(first_unlike(right, left), expected, (one, other))
            self.assertIs(left == right, expected is None)
            self.assertIs(left != right, expected is not None)

    def test_first_unlike_of_larger_pairs(self):
        numbers = Numbers(11)
        for _ in range(150):
            one, other = some_spec(numbers, ["a", "b"], 4, missing=9), some_spec(numbers, ["a", "b"], 4, missing=9)
            one, other = (one[0], [3]), (other[0], [3])
            expected = next((list(run) for run in lists_up_to(["a", "b"], 8) if
                             (is_run(one, run), is_complete(one, run)) != (is_run(other, run), is_complete(other, run))),
                            None)
            self.assertEqual(first_unlike(Machine(*one), Machine(*other)), expected, (one, other))

    def test_first_unlike_of_the_largest_pairs(self):
        """The other machine is the same but for one state or step, so that most pairs differ late."""
        numbers = Numbers(13)
        lengths = []
        for at in range(600):
            one = some_spec(numbers, ["a", "b"], 20, missing=1000)
            other = ([dict(steps) for steps in one[0]], list(one[1]))
            if at % 3 > 0:
                one, other = (one[0], [numbers.below(20)]), (other[0], [])
                other[1].extend(one[1])
            state = numbers.below(20)
            if at % 2:
                other[0][state]["a"] = numbers.below(20)
            else:
                other = (other[0], sorted({*other[1], state}))
            expected = first_unlike_by_pairs(one, other)
            self.assertEqual(first_unlike(Machine(*one), Machine(*other)), expected, (one, other))
            lengths.append(-1 if expected is None else len(expected))
        self.assertGreater(lengths.count(-1), 20)
        self.assertGreater(len([length for length in lengths if length > 6]), 20)

    def test_first_unlike_prefers_short_runs_to_early_events(self):
        one = Machine([{"a": 1, "b": 2}, {"a": 3}, {}, {}], [])
        other = Machine([{"a": 1, "b": 2}, {}, {}, {}], [2])
        self.assertEqual(first_unlike(one, other), ["b"])
        self.assertEqual(first_unlike(one, Machine([{"a": 1, "b": 2}, {}, {}], [])), ["a", "a"])

    def test_first_unlike_of_long_cycles(self):
        def cycle(size, end):
            return Machine([{"a": (at + 1) % size} for at in range(size)], [end])
        self.assertEqual(first_unlike(cycle(12, 11), cycle(20, 11)), ["a"] * 23)
        self.assertEqual(first_unlike(cycle(12, 0), cycle(12, 0)), None)


class Inclusion(unittest.TestCase):
    def test_within_of_small_pairs(self):
        specs = two_state_specs()
        for at in range(0, len(specs) * len(specs), 31):
            one, other = specs[at % len(specs)], specs[at // len(specs)]
            expected = all((not is_run(one, run) or is_run(other, run))
                           and (not is_complete(one, run) or is_complete(other, run))
                           for run in lists_up_to(["a", "b"], 5))
            self.assertIs(Machine(*one).within(Machine(*other)), expected, (one, other))

    def test_edges(self):
        nothing, ended = Machine([{}], []), Machine([{}], [0])
        self.assertIs(nothing.within(ended), True)
        self.assertIs(ended.within(nothing), False)
        self.assertIs(nothing.within(Machine([{"a": 0}], [])), True)
        self.assertIs(Machine([{"a": 0}], []).within(nothing), False)


class Joining(unittest.TestCase):
    def check(self, one, other, length):
        both, either = Machine(*one) & Machine(*other), Machine(*one) | Machine(*other)
        for run in lists_up_to(events_in(one) + events_in(other), length):
            runs = [is_run(one, run), is_run(other, run)]
            complete = [is_complete(one, run), is_complete(other, run)]
            run = list(run)
            self.assertIs(both.has(run), all(runs), (one, other))
            self.assertIs(both.completes(run), all(complete), (one, other))
            self.assertIs(either.has(run), any(runs), (one, other))
            self.assertIs(either.completes(run), any(complete), (one, other))
        for machine in (both, either):
            self.assertEqual(least_states(([dict(row) for row in machine.states], machine.finals)),
                             (machine.states, machine.finals))

    def test_small_pairs(self):
        specs = two_state_specs()
        for at in range(0, len(specs) * len(specs), 331):
            self.check(specs[at % len(specs)], specs[at // len(specs)], 6)

    def test_pairs_with_other_events(self):
        numbers = Numbers(3)
        for _ in range(25):
            self.check(some_spec(numbers, ["a", "b"], 2), some_spec(numbers, ["b", "c"], 2), 4)

    def test_laws(self):
        numbers = Numbers(4)
        nothing = Machine([{}], [])
        for _ in range(60):
            one = Machine(*some_spec(numbers, ["a", "b", "c"], 5))
            other = Machine(*some_spec(numbers, ["b", "c", "d"], 5))
            self.assertEqual(one & other, other & one)
            self.assertEqual(one | other, other | one)
            self.assertEqual(one & one, one)
            self.assertEqual(one | one, one)
            self.assertEqual(one & (one | other), one)
            self.assertEqual(one | (one & other), one)
            self.assertEqual(one | nothing, one)
            self.assertEqual((one & other).within(one), True)
            self.assertEqual(one.within(one | other), True)
            self.assertEqual(one.within(other), one | other == other)
            self.assertEqual(one.within(other), one & other == one)

    def test_operands_stay(self):
        one, other = Machine(PLANT, [0]), Machine([{"fill": 0}], [0])
        before = (one.states, one.finals, other.states, other.finals)
        one & other, one | other
        self.assertEqual((one.states, one.finals, other.states, other.finals), before)


class Seeing(unittest.TestCase):
    def check(self, spec, events, seen, view_length):
        """A view of so many events belongs to some run with one event and a walk through all states for each."""
        views, complete = set(), set()
        for run in lists_up_to(events, (view_length + 1) * len(spec[0]) - 1):
            if is_run(spec, run):
                views.add(tuple(view_in(seen, run)))
                if is_complete(spec, run):
                    complete.add(tuple(view_in(seen, run)))
        machine = seen_machine(Machine(*spec), seen)
        for view in lists_up_to(events, view_length):
            self.assertIs(machine.has(list(view)), view in views, (spec, seen, view))
            self.assertIs(machine.completes(list(view)), view in complete, (spec, seen, view))
        self.assertEqual(least_states(([dict(row) for row in machine.states], machine.finals)),
                         (machine.states, machine.finals))

    def test_all_small_machines(self):
        for at, spec in enumerate(two_state_specs()):
            self.check(spec, ["a", "b"], [["a"], [], ["b"], ["b", "a"]][at % 4], 3)

    def test_larger_machines(self):
        numbers = Numbers(8)
        for at in range(40):
            self.check(some_spec(numbers, ["a", "b"], 3), ["a", "b"], [["a"], ["b"]][at % 2], 3)
        for at in range(6):
            self.check(some_spec(numbers, ["a", "b", "c"], 2), ["a", "b", "c"], [["a"], ["b", "c"]][at % 2], 3)

    def test_unknown_and_double_events_change_nothing(self):
        machine = Machine(PLANT, [0])
        expected = seen_machine(machine, ["fill", "run"])
        self.assertEqual(seen_machine(machine, ["run", "other", "fill", "run"]), expected)
        self.assertEqual(seen_machine(machine, machine.events), machine)
        self.assertEqual(seen_machine(machine, []), Machine([{}], [0]))
        self.assertEqual(seen_machine(machine, ["other"]), Machine([{}], [0]))

    def test_complete_by_a_run_that_goes_on_unseen(self):
        machine = Machine([{"see": 1}, {"hide": 2}, {}], [2])
        self.assertEqual(seen_machine(machine, ["see"]), Machine([{"see": 1}, {}], [1]))

    def test_names(self):
        machine = Machine(PLANT, [0])
        for name in BAD_NAMES:
            self.assertEqual(raised(self, InvalidName, seen_machine, machine, ["other", name, "A"]), name)


if __name__ == "__main__":
    unittest.main()

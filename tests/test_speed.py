"""What the limits of point [2] allow is answered in a short time, also the largest."""

import time
import unittest

from seenbars.keepers import Keeper, first_fault, first_parting, passed, passes
from seenbars.machines import Machine, first_unlike, seen_machine
from seenbars.tasks import Task
from tests.plain import Numbers, some_rooms, some_spec

# Far more than is needed here, so that a slow machine passes, and far less than a walk that grows too fast takes.
SECONDS = 10
EVENTS = ["a", "b", "c", "d", "e"]


def cycle(size, event="a", ends=(0,)):
    return Machine([{event: (at + 1) % size} for at in range(size)], list(ends))


def grid(width, height):
    """The machine of 60 least states that two cycles with an event each have, if none of them hinders the other."""
    wide = Machine([{"a": (at + 1) % width, "b": at} for at in range(width)], [0])
    high = Machine([{"b": (at + 1) % height, "a": at} for at in range(height)], [0])
    return wide & high


class Speed(unittest.TestCase):
    def setUp(self):
        self.begun = time.perf_counter()

    def tearDown(self):
        self.assertLess(time.perf_counter() - self.begun, SECONDS)

    def test_machines_of_twenty_states(self):
        numbers = Numbers(71)
        for _ in range(5):
            one, other = [Machine(*some_spec(numbers, EVENTS, 20, missing=30)) for _ in range(2)]
            both, either = one & other, one | other
            self.assertTrue(both.within(one) and one.within(either) and both.within(either))
            self.assertEqual(first_unlike(one | both, one), None)

    def test_cycles_of_twenty_states(self):
        joined = cycle(20) & cycle(19)
        self.assertEqual((len(joined), joined.finals), (380, [0]))
        either = cycle(20) | cycle(19)
        self.assertEqual((len(either), len(either.finals)), (380, 38))
        self.assertEqual(first_unlike(joined, cycle(20) & cycle(19, ends=(18,))), [])
        self.assertEqual(len(first_unlike(joined, cycle(20, ends=(0, 7)) & cycle(19))), 247)

    def test_cycles_joined_once_more(self):
        """A run is told apart only after nearly as many events as there are states."""
        sixty, other = cycle(20) & cycle(3), cycle(59)
        both, either = sixty & other, sixty | other
        self.assertEqual((len(sixty), len(both), len(either)), (60, 3540, 3540))
        self.assertTrue(both.within(either))
        self.assertFalse(either.within(both))
        late = (cycle(20) & cycle(3, ends=(0, 2))) & other
        self.assertEqual(first_unlike(both, late), ["a"] * 2360)
        self.assertEqual(first_unlike(both, other & sixty), None)

    def test_grids_joined_once_more(self):
        one, other = grid(12, 5), grid(4, 15)
        both, either = one & other, one | other
        self.assertEqual((len(one), len(other), len(both)), (60, 60, 12 * 15))
        self.assertEqual(len(grid(12, 5) & grid(5, 11)), 60 * 55)
        self.assertTrue(both.within(either))
        self.assertEqual(first_unlike(both, either), ["a"] * 4)

    def test_large_joined_machines(self):
        numbers = Numbers(72)
        one, other = [Machine(*some_spec(numbers, EVENTS, 60, missing=40)) for _ in range(2)]
        both, either = one & other, one | other
        self.assertEqual(first_unlike(both, other & one), None)
        self.assertTrue(both.within(either))
        self.assertEqual(Machine([dict(row) for row in either.states], either.finals), either)

    def test_seen_machine_of_six_states(self):
        numbers = Numbers(73)
        for _ in range(20):
            machine = Machine(*some_spec(numbers, EVENTS, 6, missing=9))
            for at in range(6):
                self.assertLess(len(seen_machine(machine, EVENTS[:at])), 64)

    def test_a_task_of_eight_positions(self):
        plant = Machine([{"a": 1, "b": 0}, {"a": 2}, {"a": 3}, {"a": 0, "c": 0}], [3])
        rule = Machine([{"a": 1, "b": 2, "c": 0}, {"a": 0}, {"a": 3}, {"a": 2}], [3])
        task = Task(plant, rule, ["a", "b", "c"], ["a", "b"])
        self.assertEqual(len(task.positions), 8)
        numbers = Numbers(74)
        for _ in range(10):
            one, two, three = [Keeper(some_rooms(numbers, ["a", "b", "c"], EVENTS + ["f", "g", "h"], 6))
                               for _ in range(3)]
            for keeper in (one, one | two, one | two | three):
                for goal in ("exact", "safe", "steady", "finishing"):
                    first_fault(task, keeper, goal)
                self.assertTrue(passed(task, keeper).within(plant))
                self.assertTrue(passes(task, keeper, []))
                first_parting(task, one, keeper)

    def test_joined_keepers_that_count(self):
        def counter(size, event):
            return Keeper([(["c"] if at == size - 1 else [], {event: (at + 1) % size}) for at in range(size)])
        three = counter(6, "a") | counter(5, "b") | counter(6, "d")
        self.assertEqual(len(three), 180)
        self.assertEqual(len(three | three), 180)
        self.assertEqual(len(counter(6, "a") | counter(6, "b") | counter(6, "d")), 216)


if __name__ == "__main__":
    unittest.main()

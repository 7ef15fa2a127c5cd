"""What the limits of point [2] allow is answered in a short time, also the largest."""

import itertools
import time
import unittest

from seenbars.beliefs import judge_menu, judge_ranks, menu, ranks, steady_keeper
from seenbars.errors import Unreadable
from seenbars.exact import Team, passed_by
from seenbars.finishing import book, can_finish, greatest_seen, judge_book, judge_losses, losses
from seenbars.greatest import greatest_passed, judge_kept, judge_removal, kept, removal
from seenbars.guards import Guard, SteadyGuard
from seenbars.keepers import Keeper, first_fault, first_parting, passed, passes
from seenbars.least import is_enough, least_blockable, least_visible
from seenbars.machines import Machine, first_unlike, seen_machine
from seenbars.readings import read_keeper, read_machine, read_task
from seenbars.tasks import Task
from seenbars.texts import show_keeper, show_machine, show_task
from tests.plain import Numbers, some_rooms, some_spec

# Far more than is needed here, so that a slow machine passes, and far less than a walk that grows too fast takes.
SECONDS = 10
EVENTS = ["a", "b", "c", "d", "e"]


def cycle(size, event="a", ends=(0,)):
    return Machine([{event: (at + 1) % size} for at in range(size)], list(ends))


def grid(width, height):
    """The machine of 60 least states that two cycles with an event each have, if none of them hinders the other."""
    wide = Machine([{"a": (at + 1) % width, "b": at} for at in range(width)], [0])
    high = Machine([{"b": (at + 1) % height, "a": at} for at in range(height)], [0])
    return wide & high


class Speed(unittest.TestCase):
    def setUp(self):
        self.begun = time.perf_counter()

    def tearDown(self):
        self.assertLess(time.perf_counter() - self.begun, SECONDS)

    def test_machines_of_twenty_states(self):
        numbers = Numbers(71)
        for _ in range(5):
            one, other = [Machine(*some_spec(numbers, EVENTS, 20, missing=30)) for _ in range(2)]
            both, either = one & other, one | other
            self.assertTrue(both.within(one) and one.within(either) and both.within(either))
            self.assertEqual(first_unlike(one | both, one), None)

    def test_cycles_of_twenty_states(self):
        joined = cycle(20) & cycle(19)
        self.assertEqual((len(joined), joined.finals), (380, [0]))
        either = cycle(20) | cycle(19)
        self.assertEqual((len(either), len(either.finals)), (380, 38))
        self.assertEqual(first_unlike(joined, cycle(20) & cycle(19, ends=(18,))), [])
        self.assertEqual(len(first_unlike(joined, cycle(20, ends=(0, 7)) & cycle(19))), 247)

    def test_cycles_joined_once_more(self):
        """A run is told apart only after nearly as many events as there are states."""
        sixty, other = cycle(20) & cycle(3), cycle(59)
        both, either = sixty & other, sixty | other
        self.assertEqual((len(sixty), len(both), len(either)), (60, 3540, 3540))
        self.assertTrue(both.within(either))
        self.assertFalse(either.within(both))
        late = (cycle(20) & cycle(3, ends=(0, 2))) & other
        self.assertEqual(first_unlike(both, late), ["a"] * 2360)
        self.assertEqual(first_unlike(both, other & sixty), None)

    def test_grids_joined_once_more(self):
        one, other = grid(12, 5), grid(4, 15)
        both, either = one & other, one | other
        self.assertEqual((len(one), len(other), len(both)), (60, 60, 12 * 15))
        self.assertEqual(len(grid(12, 5) & grid(5, 11)), 60 * 55)
        self.assertTrue(both.within(either))
        self.assertEqual(first_unlike(both, either), ["a"] * 4)

    def test_large_joined_machines(self):
        numbers = Numbers(72)
        one, other = [Machine(*some_spec(numbers, EVENTS, 60, missing=40)) for _ in range(2)]
        both, either = one & other, one | other
        self.assertEqual(first_unlike(both, other & one), None)
        self.assertTrue(both.within(either))
        self.assertEqual(Machine([dict(row) for row in either.states], either.finals), either)

    def test_seen_machine_of_six_states(self):
        numbers = Numbers(73)
        for _ in range(20):
            machine = Machine(*some_spec(numbers, EVENTS, 6, missing=9))
            for at in range(6):
                self.assertLess(len(seen_machine(machine, EVENTS[:at])), 64)

    def test_a_task_of_eight_positions(self):
        plant = Machine([{"a": 1, "b": 0}, {"a": 2}, {"a": 3}, {"a": 0, "c": 0}], [3])
        rule = Machine([{"a": 1, "b": 2, "c": 0}, {"a": 0}, {"a": 3}, {"a": 2}], [3])
        task = Task(plant, rule, ["a", "b", "c"], ["a", "b"])
        self.assertEqual(len(task.positions), 8)
        numbers = Numbers(74)
        for _ in range(10):
            one, two, three = [Keeper(some_rooms(numbers, ["a", "b", "c"], EVENTS + ["f", "g", "h"], 6))
                               for _ in range(3)]
            for keeper in (one, one | two, one | two | three):
                for goal in ("exact", "safe", "steady", "finishing"):
                    first_fault(task, keeper, goal)
                self.assertTrue(passed(task, keeper).within(plant))
                self.assertTrue(passes(task, keeper, []))
                first_parting(task, one, keeper)

    def test_joined_keepers_that_count(self):
        def counter(size, event):
            return Keeper([(["c"] if at == size - 1 else [], {event: (at + 1) % size}) for at in range(size)])
        three = counter(6, "a") | counter(5, "b") | counter(6, "d")
        self.assertEqual(len(three), 180)
        self.assertEqual(len(three | three), 180)
        self.assertEqual(len(counter(6, "a") | counter(6, "b") | counter(6, "d")), 216)


# Six states over five events, with which nearly all beliefs come about.
ROUND = [{"b": 2, "d": 5, "e": 2, "c": 4}, {"d": 3, "e": 3}, {"a": 4, "b": 1, "c": 5, "d": 0, "e": 4},
         {"a": 4, "b": 5, "e": 0, "c": 2, "d": 2}, {"a": 5, "c": 1, "b": 0, "d": 1, "e": 3},
         {"b": 2, "e": 4, "c": 5, "d": 4, "a": 5}]
# Without an end that is reached from each position.
LOSING = [{"e": 4, "c": 3, "a": 0}, {"a": 5, "c": 0, "d": 5, "b": 2, "e": 3}, {"c": 2, "d": 4, "e": 1, "b": 2},
          {"a": 4, "b": 1, "c": 4, "d": 3, "e": 2}, {"a": 3, "c": 1, "d": 3, "e": 5, "b": 0}, {"a": 5, "b": 5, "c": 5}]
ANY_RULE = [{event: 0 for event in EVENTS}]


class Stage2(unittest.TestCase):
    """Tasks and teams at the limits: eight positions, or six with four blockable events; five events."""

    def setUp(self):
        self.begun = time.perf_counter()

    def tearDown(self):
        self.assertLess(time.perf_counter() - self.begun, SECONDS)

    def tasks(self, seed, count, positions):
        """Tasks with just so many positions and five events, four of them blockable."""
        numbers = Numbers(seed)
        while count > 0:
            size = 2 + numbers.below(5)
            plant = Machine(*some_spec(numbers, EVENTS, size, missing=6))
            rule = Machine(*some_spec(numbers, EVENTS, 1 + numbers.below(9 - size), missing=12))
            if plant.events == EVENTS and len(plant) + len(rule) <= 8:
                task = Task(plant, rule, EVENTS[1:], [event for event in EVENTS if numbers.below(3) > 0])
                if len(task.positions) == positions:
                    yield task
                    count -= 1

    def test_teams(self):
        found = [0, 0]
        for positions, many in ((8, 2), (5, 3)):
            for task in self.tasks(81, 30, positions):
                members = [(EVENTS[:at + 3], task.visible[at:] + EVENTS[:at]) for at in range(many)]
                team = Team(task.plant, task.rule, members)
                found[team.find_fault() is None] += 1
                if team.find_fault() is None:
                    self.assertEqual(passed_by(team, team.make_keepers()), task.allowed)
        self.assertGreater(min(found), 3)

    def test_teams_that_walk_far(self):
        plant = Machine([{"a": 3, "b": 2, "e": 2}, {"a": 2, "e": 0, "c": 1}, {"a": 0, "e": 1, "d": 2, "c": 2},
                         {"a": 1, "e": 3, "d": 3, "c": 3}, {"b": 3, "c": 0, "e": 2, "d": 1, "a": 0}], [1])
        rule = Machine([{"e": 1, "a": 0, "c": 0, "d": 0}, {"b": 0, "a": 1, "e": 0, "c": 1, "d": 1}], [0])
        team = Team(plant, rule, [(plant.events, ["a", "c", "e"]), (plant.events, ["a", "d", "e"])])
        self.assertEqual(len(team.task_of(0).positions), 8)
        run, event, alike = team.find_fault()
        self.assertEqual((event, plant.has(run + [event]), rule.has(run + [event])), ("b", True, False))
        for number, other in enumerate(alike):
            self.assertEqual(team.task_of(number).view_of(other), team.task_of(number).view_of(run))
            self.assertTrue((plant & rule).has(other + [event]))
        free = Team(Machine(ROUND, [0]), Machine(ANY_RULE, []), [(EVENTS, EVENTS[1:]), (EVENTS, EVENTS[:4])])
        self.assertEqual(passed_by(free, free.make_keepers()), free.plant)

    def test_greatest(self):
        for task in self.tasks(82, 40, 8):
            self.assertIs(judge_kept(task, kept(task)), (0, 0) in kept(task))
            self.assertIs(judge_removal(task, removal(task)), (0, 0) not in kept(task))
            self.assertEqual(greatest_passed(task) is None, (0, 0) not in kept(task))
            self.assertIs(judge_kept(task, task.positions * 250), kept(task) == task.positions)
            self.assertIs(judge_removal(task, [((0, 0), "a")] * 2000), False)

    def test_steady(self):
        found = [0, 0]
        for task in self.tasks(83, 40, 6):
            told, low = menu(task), ranks(task)
            found[low is None] += 1
            self.assertIs(judge_menu(task, told) if told else judge_ranks(task, low), True)
            self.assertEqual(steady_keeper(task) is None, told == [])
        self.assertGreater(min(found), 3)

    def test_finishing(self):
        found = [0, 0]
        for task in self.tasks(84, 25, 6):
            told, low = book(task), losses(task)
            found[low is None] += 1
            self.assertIs(judge_book(task, told) if told else judge_losses(task, low), True)
            seeing = task.with_visible(task.blockable)
            self.assertEqual(greatest_seen(seeing) is None, not can_finish(seeing))
        self.assertGreater(min(found), 3)

    def test_nearly_all_beliefs(self):
        task = Task(Machine(ROUND, [0]), Machine(ANY_RULE, []), EVENTS[1:], ["a", "c", "d"])
        told = book(task)
        self.assertGreater(len(told), 40)
        self.assertIs(judge_book(task, told), True)
        self.assertIs(judge_menu(task, menu(task)), True)
        self.assertIsNone(losses(task))

    def test_losses_of_two_thousand_entries(self):
        task = Task(Machine(LOSING, [0]), Machine(ANY_RULE, []), EVENTS[:4], ["a", "c", "e"])
        told = losses(task)
        self.assertIs(judge_losses(task, (told * (2000 // len(told) + 1))[:2000]), True)
        endless = Task(Machine(ROUND, []), Machine(ANY_RULE, []), EVENTS[1:], ["a", "c", "d"])
        # Each belief is lost by an entry of its own, while all the other beliefs have their choices still.
        beliefs = [list(belief) for size in range(6, 0, -1) for belief in itertools.combinations(endless.positions, size)]
        entries = [(belief, None, belief[-1]) for belief in beliefs]
        self.assertEqual(len(entries), 63)
        self.assertIs(judge_losses(endless, entries * 31), True)
        self.assertIs(judge_losses(endless, losses(endless)), True)


# Six states over four events: nearly all sets of visible events bring nearly all beliefs about, and none is enough.
WIDE = [{"a": 3, "b": 2, "c": 4, "d": 3}, {"a": 1, "b": 5, "c": 1, "d": 4}, {"a": 5, "b": 3, "c": 5, "d": 4},
        {"a": 3, "b": 1, "c": 1, "d": 3}, {"a": 2, "b": 0, "c": 2, "d": 5}, {"a": 0, "b": 4, "d": 0}]


class Stage3(unittest.TestCase):
    """Least sets, guards and texts at the limits, and what is read from texts beyond them."""

    def setUp(self):
        self.begun = time.perf_counter()

    def tearDown(self):
        self.assertLess(time.perf_counter() - self.begun, SECONDS)

    def test_least_sets(self):
        for finals in ([], [0], [5], [0, 1, 2, 3, 4, 5]):
            task = Task(Machine(WIDE, finals), Machine(ANY_RULE, []), EVENTS[:4], ["c", "d"])
            for goal in ("exact", "safe", "steady", "finishing"):
                enough = goal != "finishing" or len(finals) > 0
                self.assertEqual([least_visible(task, goal), least_blockable(task, goal)], [[[]] if enough else []] * 2)
                self.assertIs(is_enough(task, goal), enough)

    def test_guards(self):
        task = Task(Machine(ROUND, []), Machine(ANY_RULE, []), EVENTS[1:], ["a", "c", "d"])
        hand, keeper = SteadyGuard(task), steady_keeper(task)
        numbers = Numbers(91)
        guard = Guard(task, keeper | keeper)
        for _ in range(60):
            event = hand.able()[numbers.below(len(hand.able()))]
            self.assertEqual(hand(event), guard(event))
            self.assertEqual([hand.run, hand.state, hand.able()], [guard.run, guard.state, guard.able()])
        for _ in range(30):
            hand.undo()
            guard.undo()
            self.assertEqual([hand.run, hand.blocked], [guard.run, guard.blocked])
        self.assertEqual(len(guard), 30)

    def test_texts_of_a_thousand_states(self):
        steps = [f"a {at + 1}, b 0, c {at + 1}, d {at // 2}, e {at}" for at in range(999)]
        text = " / ".join(f"{at}: {row}" for at, row in enumerate(steps)) + " / 999!:"
        machine = read_machine(text)
        self.assertEqual((len(machine), show_machine(machine)), (1000, text))
        self.assertIsNone(first_unlike(machine, read_machine(text)))
        self.assertTrue(machine.within(read_machine(text)))
        for other in (text[:-1], text + " ", text.replace(" 998", " 997"), text + " a 1000 / 1000!:"):
            self.assertRaises(Unreadable, read_machine, other)

    def test_machines_that_were_read_and_have_little_in_common(self):
        """Cycles of 158 and of 157 states: `within` goes through all pairs of their states."""
        def text(size, finals):
            return " / ".join(f"{at}{'!' if at in finals else ''}: a {(at + 1) % size}" for at in range(size))
        one, other = read_machine(text(158, {0})), read_machine(text(157, set(range(157)) - {156}))
        self.assertIs(one.within(other), False)
        self.assertEqual(len(first_unlike(one, other)), 1)
        self.assertNotEqual(one, other)

    def test_keepers_that_were_read(self):
        def counter(size, event):
            return Keeper([(["c"] if at == size - 1 else [], {event: (at + 1) % size}) for at in range(size)])
        keeper = counter(6, "a") | counter(6, "b") | counter(6, "d") | counter(4, "e")
        text = show_keeper(keeper)
        found = read_keeper(text)
        self.assertEqual((len(found), found == keeper, show_keeper(found)), (864, True, text))
        task = Task(Machine([{"b": 1, "d": 0}, {"a": 0, "c": 1}], [0]), Machine(ANY_RULE, []), ["c"], ["a", "b", "d"])
        self.assertEqual(first_fault(task, found), first_fault(task, keeper))
        self.assertIsNone(first_parting(task, found, keeper))
        self.assertEqual(Guard(task, found).attempt(["b", "a"] * 15), Guard(task, keeper).attempt(["b", "a"] * 15))

    def test_tasks_that_were_read(self):
        numbers = Numbers(92)
        for _ in range(20):
            plant, rule = [Machine(*some_spec(numbers, EVENTS, 20, missing=30)) for _ in range(2)]
            task = Task(plant, rule, EVENTS[1:], EVENTS[:3])
            found = read_task(show_task(task))
            self.assertEqual(found, task)
            self.assertEqual(found.positions, task.positions)
            self.assertEqual([found.steps_at(position) for position in found.positions],
                             [task.steps_at(position) for position in task.positions])
            self.assertEqual(found.allowed, task.allowed)
            self.assertEqual(show_task(found.with_visible([])), show_task(task.with_visible([])))


if __name__ == "__main__":
    unittest.main()

"""The section of texts.py, and what readings.py makes of texts that were shown, at the limits and beyond them."""

import unittest

from seenbars import readings, texts
from seenbars.beliefs import steady_keeper
from seenbars.errors import Unreadable
from seenbars.exact import Team
from seenbars.greatest import greatest_keeper, greatest_passed
from seenbars.keepers import Keeper, passed
from seenbars.machines import Machine, first_unlike, seen_machine
from seenbars.readings import read_keeper, read_machine, read_task
from seenbars.tasks import Task
from seenbars.texts import show_keeper, show_machine, show_task
from tests.plain import (Numbers, events_in, is_complete, is_run, least_by_rounds, lists_up_to, raised, some_of,
                         some_rooms, some_spec, state_of, view_in)
from tests.reader import GOOD, keeper_text, machine_text, plain_machine, task_text

WORDS = ["plant", "rule", "visible", "none", "blocked", "final", "a", "zzzzzzzz"]


def dealt(numbers, rows):
    """The rows of an equal graph: each node stands twice, in another order, and one more node is not reached.

    With them, for each node the one that it stands for.
    """
    size = len(rows)
    order = list(range(1, 2 * size))
    for at in range(len(order) - 1, 0, -1):
        other = numbers.below(at + 1)
        order[at], order[other] = order[other], order[at]
    order = [0] + order
    sources = [copy % size for copy in order]
    given = [{event: order.index(rows[source][event] + size * numbers.below(2)) for event in sorted(rows[source])[::-1]}
             for source in sources]
    return given + [{"unseen": 0}], sources + [0]


def dealt_machine(numbers, spec):
    rows, sources = dealt(numbers, spec[0])
    return Machine(rows, [node for node, source in enumerate(sources) if source in spec[1]][::-1] * 2)


def dealt_keeper(numbers, rooms):
    rows, sources = dealt(numbers, [steps for _, steps in rooms])
    return Keeper([((rooms[source][0] * 2)[::-1], steps) for source, steps in zip(sources, rows)])


class Showing(unittest.TestCase):
    def test_machines(self):
        for states, finals, text in [
                ([{}], [], "0:"), ([{}], [0, 0], "0!:"), ([{"a": 0}], [], "0: a 0"), ([{"b": 0, "a": 0}], [0], "0!: a 0, b 0"),
                ([{"on": 1, "test": 0}, {"off": 0}], [0], "0!: on 1, test 0 / 1: off 0"),
                ([{"off": 2}, {}, {"on": 0, "a": 1}], [1], "0: off 1 / 1: a 2, on 0 / 2!:"),
                ([{"none": 1}, {"none": 0}], [], "0: none 0")]:
            self.assertEqual(show_machine(Machine(states, finals)), text)

    def test_keepers(self):
        for rooms, text in [
                ([([], {})], "0 []:"), ([(["b", "a", "b"], {"c": 0})], "0 [a b]:"),
                ([(["on"], {"off": 1}), ([], {})], "0 [on]: off 1 / 1 []:"),
                ([([], {"z": 1, "b": 2, "q": 0}), (["z"], {}), (["y", "x"], {"a": 0, "b": 1, "z": 1})],
                 "0 []: b 1, z 2 / 1 [x y]: a 0, b 2, z 2 / 2 [z]:")]:
            self.assertEqual(show_keeper(Keeper(rooms)), text)

    def test_tasks(self):
        plant, rule = Machine([{"b": 1}, {"a": 0}], [1]), Machine([{"b": 0, "c": 0}], [0])
        shown = "plant 0: b 1 / 1!: a 0 | rule 0!: b 0, c 0 | "
        for blockable, visible, end in [([], [], "blockable | visible"), (["b", "a", "b"], [], "blockable a b | visible"),
                                        ([], ["b", "b"], "blockable | visible b"),
                                        (["a"], ["b", "a"], "blockable a | visible a b")]:
            self.assertEqual(show_task(Task(plant, rule, blockable, visible)), shown + end)

    def test_plain(self):
        numbers = Numbers(201)
        for size in [1, 2, 3, 5, 8, 12, 20] * 20:
            spec = some_spec(numbers, WORDS[:5], size)
            self.assertEqual(show_machine(Machine(*spec)), machine_text(spec))
            rooms = some_rooms(numbers, WORDS, WORDS, size)
            self.assertEqual(show_keeper(Keeper(rooms)), keeper_text(rooms))
            rule = some_spec(numbers, WORDS[3:], size)
            known = Machine(*spec).events
            lists = some_of(numbers, known), some_of(numbers, known)
            self.assertEqual(show_task(Task(Machine(*spec), Machine(*rule), *lists)), task_text(spec, rule, *lists))

    def test_equal_things_have_the_same_text(self):
        numbers = Numbers(202)
        for _ in range(100):
            one, other = [some_spec(numbers, WORDS[:3], 1 + numbers.below(4)) for _ in range(2)]
            machines = [Machine(*one), dealt_machine(numbers, one)]
            self.assertEqual(machines[0], machines[1])
            self.assertEqual(show_machine(machines[0]), show_machine(machines[1]))
            known = machines[0].events
            blockable, visible = some_of(numbers, known), some_of(numbers, known)
            tasks = [Task(machines[0], Machine(*other), blockable, visible),
                     Task(machines[1], dealt_machine(numbers, other), (blockable * 2)[::-1], (visible * 3)[::-1])]
            self.assertEqual(tasks[0], tasks[1])
            self.assertEqual(show_task(tasks[0]), show_task(tasks[1]))
            rooms = some_rooms(numbers, ["on", "off", "none"], WORDS[:3], 1 + numbers.below(4))
            keepers = [Keeper(rooms), dealt_keeper(numbers, rooms)]
            self.assertEqual(keepers[0], keepers[1])
            self.assertEqual(show_keeper(keepers[0]), show_keeper(keepers[1]))

    def test_unlike_things_have_unlike_texts(self):
        numbers = Numbers(203)
        found = [0, 0]
        for _ in range(400):
            one, other = [Machine(*some_spec(numbers, ["a", "b"], 2)) for _ in range(2)]
            self.assertIs(show_machine(one) == show_machine(other), one == other)
            found[one == other] += 1
            one, other = [Keeper(some_rooms(numbers, ["a"], ["a", "b"], 2)) for _ in range(2)]
            self.assertIs(show_keeper(one) == show_keeper(other), one == other)
        self.assertGreater(min(found), 5)

    def test_final_states_of_the_rule_are_shown(self):
        plant = Machine([{"a": 0}], [])
        tasks = [Task(plant, Machine([{"a": 0}], finals), [], []) for finals in ([], [0])]
        self.assertEqual([show_task(task) for task in tasks],
                         ["plant 0: a 0 | rule 0: a 0 | blockable | visible",
                          "plant 0: a 0 | rule 0!: a 0 | blockable | visible"])


class ReadingBack(unittest.TestCase):
    def check_machine(self, machine):
        text = show_machine(machine)
        found = read_machine(text)
        self.assertIs(type(found), Machine)
        self.assertTrue(found == machine and machine == found, text)
        self.assertEqual((found.states, found.finals, found.events, len(found)),
                         (machine.states, machine.finals, machine.events, len(machine)))
        self.assertEqual(show_machine(found), text)

    def check_keeper(self, keeper):
        text = show_keeper(keeper)
        found = read_keeper(text)
        self.assertIs(type(found), Keeper)
        self.assertTrue(found == keeper and keeper == found, text)
        self.assertEqual((found.rooms, len(found)), (keeper.rooms, len(keeper)))
        self.assertEqual(show_keeper(found), text)

    def check_task(self, task):
        text = show_task(task)
        found = read_task(text)
        self.assertIs(type(found), Task)
        self.assertTrue(found == task and task == found, text)
        self.assertEqual((found.plant, found.rule, found.blockable, found.visible, found.positions, found.allowed),
                         (task.plant, task.rule, task.blockable, task.visible, task.positions, task.allowed))
        self.assertEqual([found.steps_at(place) for place in found.positions],
                         [task.steps_at(place) for place in task.positions])
        self.assertEqual(show_task(found), text)

    def test_small_things(self):
        for text in GOOD["machine"]:
            self.check_machine(read_machine(text))
        for text in GOOD["keeper"]:
            self.check_keeper(read_keeper(text))
        for text in GOOD["task"]:
            self.check_task(read_task(text))
        self.check_machine(Machine([{}], []))
        self.check_machine(Machine([{}], [0]))
        self.check_keeper(Keeper([([], {})]))
        self.check_task(Task(Machine([{}], []), Machine([{}], []), [], []))

    def test_many(self):
        numbers = Numbers(211)
        for size in [1, 2, 3, 4, 6, 13, 20] * 20:
            spec = some_spec(numbers, WORDS[:5], size, 2 + numbers.below(4))
            self.check_machine(Machine(*spec))
            self.check_machine(Machine(spec[0], []))
            self.check_keeper(Keeper(some_rooms(numbers, WORDS, WORDS, size)))
            known = Machine(*spec).events
            self.check_task(Task(Machine(*spec), Machine(*some_spec(numbers, WORDS[3:], size)), some_of(numbers, known),
                                 some_of(numbers, known)))

    def test_what_the_package_returned(self):
        numbers = Numbers(212)
        for _ in range(40):
            one, other = [Machine(*some_spec(numbers, ["a", "b", "c"], 6, 8)) for _ in range(2)]
            for machine in (one & other, one | other, seen_machine(one, ["a"]), (one & other) | (other & one)):
                self.check_machine(machine)
            keepers = [Keeper(some_rooms(numbers, one.events, WORDS, 6)) for _ in range(3)]
            self.check_keeper(keepers[0] | keepers[1])
            self.check_keeper(keepers[0] | keepers[1] | keepers[2])
            task = Task(one, Machine([{"a": 0, "b": 0, "c": 1}, {"a": 0, "b": 0, "c": 0}], []), one.events,
                        some_of(numbers, one.events))
            self.check_task(task)
            self.check_task(task.with_visible([]).with_blockable([]))
            self.check_machine(task.allowed)
            self.check_machine(passed(task, keepers[0]))
            for keeper in (greatest_keeper(task), steady_keeper(task)):
                if keeper is not None:
                    self.check_keeper(keeper)
                    self.check_machine(passed(task.with_visible(one.events), keeper))
            if greatest_passed(task) is not None:
                self.check_machine(greatest_passed(task))
            if Team.alone(task).find_fault() is None:
                self.check_keeper(Team.alone(task).make_keepers()[0])

    def test_indexes_of_three_and_of_four_digits(self):
        def cycle(size):
            return Machine([{"a": (at + 1) % size} for at in range(size)], [0])
        # 20 * 19 states, 20 * 3 joined with 19 are 1140.
        self.check_machine(cycle(20) & cycle(19))
        large = cycle(20) & cycle(3) & cycle(19)
        self.assertEqual(len(large), 1140)
        text = show_machine(large)
        self.assertTrue(text.endswith(" / 1138: a 1139 / 1139: a 0"))
        self.assertEqual(raised(self, Unreadable, read_machine, text), text)
        # Chains with 1000 and with 1001 states: 999 is the greatest index that can be read.
        chain = " / ".join(f"{at}: a {at + 1}" for at in range(999)) + " / 999!:"
        self.assertEqual(len(read_machine(chain)), 1000)
        self.check_machine(read_machine(chain))
        longer = chain[:-1] + " a 1000 / 1000!:"
        self.assertEqual(raised(self, Unreadable, read_machine, longer), longer)
        rooms = " / ".join(f"{at} []: a {at + 1}" for at in range(999)) + " / 999 [a]:"
        self.check_keeper(read_keeper(rooms))
        more = rooms + " b 1000 / 1000 []:"
        self.assertEqual(raised(self, Unreadable, read_keeper, more), more)


def chain_text(most, last="!:", head=""):
    """The text of the longest chain with at most so many characters: the machine counts up to its last state."""
    size = 1
    while len(chain(size + 1, last, head)) <= most:
        size += 1
    return chain(size, last, head)


def chain(size, last, head):
    return "".join(f"{at}{head}: a {at + 1} / " for at in range(size - 1)) + f"{size - 1}{last}"


class BeyondTheLimits(unittest.TestCase):
    def test_chains(self):
        text = chain_text(2000)
        machine = read_machine(text)
        size = len(machine)
        self.assertGreater(size, 150)
        self.assertLessEqual(len(text), 2000)
        self.assertEqual(show_machine(machine), text)
        self.assertEqual((machine.finals, machine.events), ([size - 1], ["a"]))
        self.assertEqual(machine.states, [[("a", at + 1)] for at in range(size - 1)] + [[]])
        self.assertEqual(machine.state_after(["a"] * 30), 30)
        self.assertEqual([machine.has(["a"] * (size - 1)), machine.has(["a"] * size), ["a"] * 30 in machine], [True, False, True])
        self.assertIs(machine.completes(["a"] * (size - 1)), True)
        shorter = read_machine(chain(size - 1, ":", ""))
        self.assertEqual([shorter.within(machine), machine.within(shorter), shorter == machine], [True, False, False])
        self.assertEqual(first_unlike(shorter, machine), ["a"] * (size - 1))
        for other in (text[:-1], text.replace("!", ""), text + " a 0 / ", text.replace("99: a 100", "99: a 101"),
                      text.replace("99: a 100", "99: a 099"), text[text.index("/ 1:") + 2:]):
            spec = plain_machine(other)
            if spec is None:
                self.assertEqual(raised(self, Unreadable, read_machine, other), other)
            else:
                self.assertEqual(read_machine(other), Machine(*spec))

    def test_many_events(self):
        names = [one + other for one in "abcdefghijklm" for other in "abcdefghijklmnopqrstuvwxyz"]
        text = "0!:" + ",".join(f" {name} 0" for name in names)[:1997]
        text = text[:text.rindex(",")]
        machine = read_machine(text)
        self.assertGreater(len(machine.events), 300)
        self.assertEqual(machine.events, names[:len(machine.events)])
        self.assertEqual(show_machine(machine), text)
        self.assertIs(machine.completes(names[:30]), True)
        swapped = text.replace(" ab 0, ac 0", " ac 0, ab 0")
        self.assertEqual(raised(self, Unreadable, read_machine, swapped), swapped)

    def test_keepers(self):
        text = chain_text(2000, " [z]:", " []")
        keeper = read_keeper(text)
        size = len(keeper)
        self.assertGreater(size, 110)
        self.assertEqual(show_keeper(keeper), text)
        self.assertEqual(keeper.rooms[:2] + keeper.rooms[-1:], [([], [("a", 1)]), ([], [("a", 2)]), (["z"], [])])
        self.assertEqual([keeper.blocked_after(["a"] * (size - 2)), keeper.blocked_after(["a", "b"] * size)], [[], ["z"]])
        self.assertEqual(keeper, Keeper([(blocked, dict(steps)) for blocked, steps in keeper.rooms]))
        self.assertNotEqual(keeper, read_keeper(chain(size - 1, " [z]:", " []")))
        blind = chain(size, " []:", " []")
        self.assertEqual(raised(self, Unreadable, read_keeper, blind), blind)

    def test_tasks_of_two_machines_of_twenty_states(self):
        numbers = Numbers(231)
        largest = 0
        while largest < 12:
            plant, rule = [some_spec(numbers, WORDS[:5] + ["b", "c"], 20, 2) for _ in range(2)]
            plant[0][0], rule[0][0] = [{event: 1 + numbers.below(19) for event in ["a", "b", "c"]} for _ in range(2)]
            known = events_in(least_spec(plant))
            lists = some_of(numbers, known), some_of(numbers, known)
            text = task_text(plant, rule, *lists)
            if len(text) <= 2000 and len(machine_text(plant).split("/")) == 20 == len(machine_text(rule).split("/")):
                largest += 1
                self.check_large_task(read_task(text), text, plant, rule, lists)

    def check_large_task(self, task, text, plant, rule, lists):
        self.assertEqual(show_task(task), text)
        self.assertEqual(task, Task(Machine(*plant), Machine(*rule), *lists))
        self.assertEqual((task.blockable, task.visible), lists)
        self.assertEqual(task.with_visible([]).with_blockable([]), Task(Machine(*plant), Machine(*rule), [], []))
        least = least_spec(plant), least_spec(rule)
        self.assertEqual((task.plant.states, task.rule.states), tuple([sorted(row.items()) for row in spec[0]] for spec in least))
        places = {(0, 0): []}
        for run in lists_up_to(events_in(plant), 3):
            if is_run(plant, run) and is_run(rule, run):
                position = (state_of(least[0], run), state_of(least[1], run))
                self.assertEqual(task.position_after(list(run)), position)
                self.assertIn(position, task.positions)
                self.assertIs(task.allowed.has(list(run)), True)
                self.assertIs(task.allowed.completes(list(run)), is_complete(plant, run))
                self.assertEqual([event for event, _ in task.steps_at(position)], sorted(least[0][0][position[0]]))
                self.assertEqual(task.view_of(list(run)), view_in(task.visible, run))
                places[position] = run
        self.assertGreater(len(places), 1)

    def test_tasks_of_four_hundred_positions(self):
        plant = Machine([{"a": (at + 1) % 20, "b": at} for at in range(20)], [0])
        rule = Machine([{"b": (at + 1) % 20, "a": at} for at in range(20)], [3])
        text = show_task(Task(plant, rule, ["a"], ["b"]))
        self.assertLess(len(text), 2000)
        task = read_task(text)
        self.assertEqual(task.positions, [(one, other) for one in range(20) for other in range(20)])
        self.assertEqual(task.steps_at((19, 4)), [("a", (0, 4)), ("b", (19, 5))])
        self.assertEqual(task.allowed, plant)
        self.assertEqual(task.position_after(["a", "b"] * 15), (15, 15))
        self.assertEqual(show_task(task.with_visible(["a"])), text.replace("visible b", "visible a"))


def least_spec(spec):
    states, finals = least_by_rounds(spec)
    return [dict(steps) for steps in states], finals


class Calls(unittest.TestCase):
    def test_by_name(self):
        self.assertEqual(show_machine(machine=read_machine(text="0!:")), "0!:")
        self.assertEqual(show_keeper(keeper=read_keeper(text="0 [a]:")), "0 [a]:")
        self.assertEqual(show_task(task=read_task(text=GOOD["task"][2])), GOOD["task"][2])

    def test_places(self):
        for name in ("show_machine", "show_keeper", "show_task"):
            self.assertEqual(getattr(texts, name).__module__, "seenbars.texts")
        for name in ("read_machine", "read_keeper", "read_task"):
            self.assertEqual(getattr(readings, name).__module__, "seenbars.readings")

    def test_texts_are_strings(self):
        for text in [show_machine(Machine([{}], [])), show_keeper(Keeper([([], {})])), show_task(read_task(GOOD["task"][0]))]:
            self.assertIs(type(text), str)


if __name__ == "__main__":
    unittest.main()

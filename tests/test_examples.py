"""The examples of the document, as they stand there."""

import doctest
import unittest

MACHINES = r'''
>>> from seenbars.machines import Machine, first_unlike, seen_machine
>>> plant = Machine([{"fill": 1}, {"run": 2, "leak": 3}, {"stop": 0}, {"run": 4, "drain": 0}, {"stop": 0}], [0])
>>> rule = Machine([{"fill": 1}, {"run": 2, "leak": 3}, {"stop": 0}, {"drain": 0}], [])
>>> [plant.states, plant.finals, plant.events, len(plant), plant.completes(["fill", "run", "stop"]), ["fill", "stop"] in plant, plant.state_after(["fill", "leak"])]
[[[('fill', 1)], [('leak', 2), ('run', 3)], [('drain', 0), ('run', 3)], [('stop', 0)]], [0], ['drain', 'fill', 'leak', 'run', 'stop'], 4, True, False, 2]
>>> [first_unlike(plant, rule), rule.within(plant), plant & rule == rule, plant | rule == plant, seen_machine(plant, ["fill", "run"]).states, seen_machine(rule, []).states]
[[], True, True, True, [[('fill', 1)], [('fill', 1), ('run', 0)]], [[]]]
'''

TASKS = r'''
>>> from seenbars.machines import Machine
>>> from seenbars.tasks import Task
>>> plant = Machine([{"fill": 1}, {"run": 2, "leak": 3}, {"stop": 0}, {"run": 4, "drain": 0}, {"stop": 0}], [0])
>>> rule = Machine([{"fill": 1}, {"run": 2, "leak": 3}, {"stop": 0}, {"drain": 0}], [])
>>> task = Task(plant, rule, ["run"], ["fill", "run", "stop", "drain"])
>>> [task.visible, task.positions, task.view_of(["fill", "leak", "drain"]), task.position_after(["fill", "leak"]), task.steps_at((2, 2)), task.allowed.finals, task.with_visible([]).visible]
[['drain', 'fill', 'run', 'stop'], [(0, 0), (1, 1), (2, 2), (3, 3)], ['fill', 'drain'], (2, 2), [('drain', (0, 0)), ('run', None)], [0], []]
'''

KEEPERS = r'''
>>> from seenbars.keepers import Keeper, first_fault, first_parting, passed, passes
>>> from seenbars.machines import Machine
>>> from seenbars.tasks import Task
>>> plant = Machine([{"fill": 1}, {"run": 2, "leak": 3}, {"stop": 0}, {"run": 4, "drain": 0}, {"stop": 0}], [0])
>>> task = Task(plant, Machine([{"fill": 1}, {"run": 2, "leak": 3}, {"stop": 0}, {"drain": 0}], []), ["run"], ["fill", "drain"])
>>> shut, open_gate, half = Keeper([(["run"], {})]), Keeper([([], {})]), Keeper([(["run"], {"fill": 1}), ([], {"drain": 0, "fill": 1})])
>>> [half.rooms, half.blocked_after(["fill", "drain"]), len(half | shut), passed(task, shut).states, passes(task, half, ["fill", "run"])]
[[(['run'], [('fill', 1)]), ([], [('drain', 0)])], ['run'], 1, [[('fill', 1)], [('leak', 2)], [('drain', 0)]], True]
>>> [first_fault(task, shut), first_fault(task, shut, goal="exact"), first_fault(task, open_gate, goal="safe"), first_parting(task, half, open_gate), first_parting(task, shut, half)]
[None, ['fill', 'run'], ['fill', 'leak', 'run'], None, ['fill', 'run']]
'''

EXACT = r'''
>>> from seenbars.exact import Team, passed_by
>>> from seenbars.machines import Machine
>>> plant = Machine([{"fill": 1}, {"run": 2, "leak": 3}, {"stop": 0}, {"run": 4, "drain": 0}, {"stop": 0}], [0])
>>> rule = Machine([{"fill": 1}, {"run": 2, "leak": 3}, {"stop": 0}, {"drain": 0}], [])
>>> blind, leaky = Team(plant, rule, [(["run"], ["fill", "run", "stop", "drain"])]), Team(plant, rule, [(["run"], ["drain", "leak"]), ([], ["fill"])])
>>> [blind.find_fault(), leaky.find_fault(), passed_by(leaky, leaky.make_keepers()) == leaky.task_of(0).allowed, Team.alone(blind.task_of(0)) == blind]
[(['fill', 'leak'], 'run', [['fill']]), None, True, True]
'''

GREATEST = r'''
>>> from seenbars.greatest import greatest_keeper, greatest_passed, judge_kept, judge_removal, kept, removal
>>> from seenbars.keepers import passed
>>> from seenbars.machines import Machine
>>> from seenbars.tasks import Task
>>> plant = Machine([{"fill": 1}, {"run": 2, "leak": 3}, {"stop": 0}, {"run": 4, "drain": 0}, {"stop": 0}], [0])
>>> task = Task(plant, Machine([{"fill": 1}, {"run": 2, "leak": 3}, {"stop": 0}, {"drain": 0}], []), ["run"], [])
>>> [kept(task), judge_kept(task, [(0, 0), (2, 2), (1, 1)]), judge_kept(task, [(0, 0)]), greatest_passed(task) == task.allowed, removal(task), passed(task.with_visible(plant.events), greatest_keeper(task)) == task.allowed]
[[(0, 0), (1, 1), (2, 2), (3, 3)], True, False, True, [], True]
>>> free = task.with_blockable([])
>>> [kept(free), greatest_passed(free), judge_removal(free, [((2, 2), "run"), ((1, 1), "leak"), ((0, 0), "fill")]), judge_removal(free, [((0, 0), "fill")]), judge_removal(free, removal(free))]
[[], None, True, False, True]
'''

BELIEFS = r'''
>>> from seenbars.beliefs import belief_after, is_steady_choice, judge_menu, judge_ranks, menu, ranks, spread, steady_keeper
>>> from seenbars.keepers import first_fault
>>> from seenbars.machines import Machine
>>> from seenbars.tasks import Task
>>> plant = Machine([{"fill": 1}, {"run": 2, "leak": 3}, {"stop": 0}, {"run": 4, "drain": 0}, {"stop": 0}], [0])
>>> task = Task(plant, Machine([{"fill": 1}, {"run": 2, "leak": 3}, {"stop": 0}, {"drain": 0}], []), ["run"], ["fill", "run", "stop", "drain"])
>>> [spread(task, [(1, 1)], []), is_steady_choice(task, [(1, 1)], []), is_steady_choice(task, [(1, 1)], ["run"]), belief_after(task, [(1, 1)], ["run"], "drain"), belief_after(task, [(0, 0)], [], "drain")]
[[(1, 1), (2, 2)], False, True, [(0, 0)], []]
>>> [menu(task), judge_menu(task, [([(1, 1)], [["run"]]), ([(0, 0)], [[]])]), first_fault(task, steady_keeper(task), goal="steady"), ranks(task)]
[[([(0, 0)], [[], ['run']]), ([(1, 1)], [['run']])], True, None, None]
>>> free = task.with_blockable([])
>>> [menu(free), judge_ranks(free, [([(0, 0)], 1), ([(1, 1)], 0)]), judge_ranks(free, [([(0, 0)], 0)]), judge_ranks(free, ranks(free))]
[[], True, False, True]
'''

FINISHING = r'''
>>> from seenbars.finishing import book, can_finish, greatest_seen, greatest_seen_keeper, judge_book, judge_losses, losses
>>> from seenbars.keepers import first_fault, passed
>>> from seenbars.machines import Machine
>>> from seenbars.tasks import Task
>>> plant = Machine([{"fill": 1}, {"run": 2, "leak": 3}, {"stop": 0}, {"run": 4, "drain": 0}, {"stop": 0}], [0])
>>> task = Task(plant, Machine([{"fill": 1}, {"run": 2, "leak": 3}, {"stop": 0}, {"drain": 0}], []), ["run"], ["fill", "run", "stop", "drain"])
>>> [book(task), judge_book(task, book(task)), can_finish(task.with_blockable([])), greatest_seen(task).states, passed(task, greatest_seen_keeper(task)) == greatest_seen(task)]
[[([(0, 0)], [[], ['run']]), ([(1, 1)], [['run']])], True, False, [[('fill', 1)], [('leak', 2)], [('drain', 0)]], True]
>>> trap = Machine([{"a": 1, "b": 2}, {"c": 1}, {"c": 3}, {}], [3])
>>> risky = Task(trap, Machine([{"a": 0, "b": 0, "c": 0}], []), ["a"], [])
>>> [first_fault(risky, greatest_seen_keeper(risky.with_visible(["a"]))), book(risky)]
[None, [([(0, 0)], [['a']])]]
>>> lost = risky.with_blockable([])
>>> [can_finish(lost), judge_losses(lost, [([(0, 0)], [], (1, 0))]), judge_losses(lost, losses(lost)), judge_losses(risky, [([(0, 0)], [], (1, 0))]), losses(risky)]
[False, True, True, False, None]
'''

LEAST = r'''
>>> from seenbars.least import is_enough, least_blockable, least_visible
>>> from seenbars.machines import Machine
>>> from seenbars.tasks import Task
>>> plant = Machine([{"fill": 1}, {"run": 0, "leak": 2}, {"run": 0, "drain": 0}], [0])
>>> task = Task(plant, Machine([{"fill": 1}, {"run": 0, "leak": 2}, {"drain": 0}], []), ["run"], [])
>>> [is_enough(task, "finishing"), is_enough(task, "exact"), least_visible(task, "exact"), least_visible(task, "safe"), least_blockable(task, "steady")]
[True, False, [['drain', 'leak'], ['fill', 'leak']], [[]], [['fill'], ['leak'], ['run']]]
'''

GUARDS = r'''
>>> from seenbars.guards import Guard, SteadyGuard
>>> from seenbars.keepers import Keeper
>>> from seenbars.machines import Machine
>>> from seenbars.tasks import Task
>>> plant = Machine([{"fill": 1}, {"run": 2, "leak": 3}, {"stop": 0}, {"run": 4, "drain": 0}, {"stop": 0}], [0])
>>> task = Task(plant, Machine([{"fill": 1}, {"run": 2, "leak": 3}, {"stop": 0}, {"drain": 0}], []), ["run"], ["fill", "run", "stop", "drain"])
>>> guard = Guard(task, Keeper([(["run"], {})]))
>>> [guard.attempt(["fill", "leak"]), guard.run, guard("fill"), guard.able(), guard.view, guard.is_complete, len(guard), guard.undo(), guard.state]
[[['run'], ['run']], [], ['run'], ['leak'], ['fill'], False, 1, None, 0]
>>> hand = SteadyGuard(task)
>>> [hand.belief, hand.choices, hand.choose(["run"]), hand.blocked, hand("fill"), hand.belief, hand.undo(), hand.blocked]
[[(0, 0)], [[], ['run']], None, ['run'], ['run'], [(1, 1)], None, ['run']]
'''

READINGS = r'''
>>> from seenbars.keepers import Keeper
>>> from seenbars.machines import Machine
>>> from seenbars.readings import read_keeper, read_machine, read_task
>>> from seenbars.tasks import Task
>>> from seenbars.texts import show_keeper, show_machine, show_task
>>> machine = Machine([{"on": 1, "test": 0}, {"off": 0}], [0])
>>> [show_machine(machine), read_machine("0!: off 0") == Machine([{"off": 0}], [0]), show_keeper(Keeper([(["on"], {"off": 1}), ([], {})])), read_keeper("0 []:") == Keeper([([], {})])]
['0!: on 1, test 0 / 1: off 0', True, '0 [on]: off 1 / 1 []:', True]
>>> task = Task(machine, Machine([{"on": 1}, {"off": 0}], []), ["on"], [])
>>> [show_task(task), read_task(show_task(task)) == task]
['plant 0!: on 1, test 0 / 1: off 0 | rule 0: on 1 / 1: off 0 | blockable on | visible', True]
'''


class Examples(unittest.TestCase):
    def check(self, name, text, count):
        examples = doctest.DocTestParser().get_doctest(text, {}, name, None, 0)
        self.assertEqual(len(examples.examples), count)
        told = []
        doctest.DocTestRunner(verbose=False).run(examples, out=told.append)
        self.assertEqual("".join(told), "")

    def test_machines(self):
        self.check("machines", MACHINES, 5)

    def test_tasks(self):
        self.check("tasks", TASKS, 6)

    def test_keepers(self):
        self.check("keepers", KEEPERS, 8)

    def test_exact(self):
        self.check("exact", EXACT, 6)

    def test_greatest(self):
        self.check("greatest", GREATEST, 9)

    def test_beliefs(self):
        self.check("beliefs", BELIEFS, 10)

    def test_finishing(self):
        self.check("finishing", FINISHING, 12)

    def test_least(self):
        self.check("least", LEAST, 6)

    def test_guards(self):
        self.check("guards", GUARDS, 10)

    def test_texts_and_readings(self):
        self.check("readings", READINGS, 9)


if __name__ == "__main__":
    unittest.main()

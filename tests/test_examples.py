"""The examples of the document, as they stand there."""

import doctest
import unittest

MACHINES = r'''
>>> from seenbars.machines import Machine, first_unlike, seen_machine
>>> plant = Machine([{"fill": 1}, {"run": 2, "leak": 3}, {"stop": 0}, {"run": 4, "drain": 0}, {"stop": 0}], [0])
>>> rule = Machine([{"fill": 1}, {"run": 2, "leak": 3}, {"stop": 0}, {"drain": 0}], [])
>>> [plant.states, plant.finals, plant.events, len(plant), plant.completes(["fill", "run", "stop"]), ["fill", "stop"] in plant, plant.state_after(["fill", "leak"])]
[[[('fill', 1)], [('leak', 2), ('run', 3)], [('drain', 0), ('run', 3)], [('stop', 0)]], [0], ['drain', 'fill', 'leak', 'run', 'stop'], 4, True, False, 2]
>>> [first_unlike(plant, rule), rule.within(plant), plant & rule == rule, plant | rule == plant, seen_machine(plant, ["fill", "run"]).states, seen_machine(rule, []).states]
[[], True, True, True, [[('fill', 1)], [('fill', 1), ('run', 0)]], [[]]]
'''

TASKS = r'''
>>> from seenbars.machines import Machine
>>> from seenbars.tasks import Task
>>> plant = Machine([{"fill": 1}, {"run": 2, "leak": 3}, {"stop": 0}, {"run": 4, "drain": 0}, {"stop": 0}], [0])
>>> rule = Machine([{"fill": 1}, {"run": 2, "leak": 3}, {"stop": 0}, {"drain": 0}], [])
>>> task = Task(plant, rule, ["run"], ["fill", "run", "stop", "drain"])
>>> [task.visible, task.positions, task.view_of(["fill", "leak", "drain"]), task.position_after(["fill", "leak"]), task.steps_at((2, 2)), task.allowed.finals, task.with_visible([]).visible]
[['drain', 'fill', 'run', 'stop'], [(0, 0), (1, 1), (2, 2), (3, 3)], ['fill', 'drain'], (2, 2), [('drain', (0, 0)), ('run', None)], [0], []]
'''

KEEPERS = r'''
>>> from seenbars.keepers import Keeper, first_fault, first_parting, passed, passes
>>> from seenbars.machines import Machine
>>> from seenbars.tasks import Task
>>> plant = Machine([{"fill": 1}, {"run": 2, "leak": 3}, {"stop": 0}, {"run": 4, "drain": 0}, {"stop": 0}], [0])
>>> task = Task(plant, Machine([{"fill": 1}, {"run": 2, "leak": 3}, {"stop": 0}, {"drain": 0}], []), ["run"], ["fill", "drain"])
>>> shut, open_gate, half = Keeper([(["run"], {})]), Keeper([([], {})]), Keeper([(["run"], {"fill": 1}), ([], {"drain": 0, "fill": 1})])
>>> [half.rooms, half.blocked_after(["fill", "drain"]), len(half | shut), passed(task, shut).states, passes(task, half, ["fill", "run"])]
[[(['run'], [('fill', 1)]), ([], [('drain', 0)])], ['run'], 1, [[('fill', 1)], [('leak', 2)], [('drain', 0)]], True]
>>> [first_fault(task, shut), first_fault(task, shut, goal="exact"), first_fault(task, open_gate, goal="safe"), first_parting(task, half, open_gate), first_parting(task, shut, half)]
[None, ['fill', 'run'], ['fill', 'leak', 'run'], None, ['fill', 'run']]
'''


class Examples(unittest.TestCase):
    def check(self, name, text, count):
        examples = doctest.DocTestParser().get_doctest(text, {}, name, None, 0)
        self.assertEqual(len(examples.examples), count)
        told = []
        doctest.DocTestRunner(verbose=False).run(examples, out=told.append)
        self.assertEqual("".join(told), "")

    def test_machines(self):
        self.check("machines", MACHINES, 5)

    def test_tasks(self):
        self.check("tasks", TASKS, 6)

    def test_keepers(self):
        self.check("keepers", KEEPERS, 8)


if __name__ == "__main__":
    unittest.main()

"""No function changes a program that it is passed, and the same calls give the same results."""

import unittest

from handshaker.closed import shows
from handshaker.errors import TooLarge
from handshaker.explore import explore, reachable
from handshaker.machine import Machine
from handshaker.reduce import independent, reduced_ends, reduced_orders
from handshaker.report import ends_report, machine_report, records_report
from handshaker.world import World, run_order
from tests.blocks import snapshot
from tests.test_explore import drawn


def copied(program):
    return [snapshot(program.cells), [snapshot([one.name, one.variables, one.body]) for one in program.threads]]


def results(program):
    """What all functions over programs return."""
    ends, states = explore(program), reachable(program)
    machine = Machine(program)
    machine.settle()
    found = [ends, states, reduced_orders(program), reduced_ends(program), ends_report(program),
             machine_report(program, machine), records_report(program, machine.records()),
             shows(program, states, [end for end, _ in ends]), [run_order(program, order) for _, order in ends]]
    world = World(program)
    for state in states[:10]:
        steps = world.possible(state)
        found += [[world.after(state, step) for step in steps], world.end_of(state)]
        found += [independent(program, state, first, second) for first in steps for second in steps]
    return found


class ArgumentsTest(unittest.TestCase):
    def test_programs_stay_as_they_are(self):
        many = 0
        for program in drawn(40):
            before = copied(program)
            try:
                first = results(program)
            except TooLarge:
                continue
            self.assertEqual(copied(program), before)
            self.assertEqual(results(program), first)
            many += 1
        self.assertGreater(many, 30)


if __name__ == "__main__":
    unittest.main()

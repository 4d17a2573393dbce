"""The names and arguments of the whole interface, each in its module."""

import importlib
import inspect
import unittest

# The parameters of a function, or of a class and, behind it, of its methods.
INTERFACE = {
    "errors": {
        "HandshakerError": None, "TextError": "line, column, reason", "TooLarge": "limit", "Fault": "reason",
        "ImpossibleStep": "step", "UnknownThread": "thread", "InvalidLine": "line", "InvalidCount": None,
        "NotOwner": None, "InvalidVersion": None, "NotAtRest": None,
    },
    "syntax": {
        "Thread": "name, variables, body", "Program": "cells, threads", "same_program": "program, other",
        "is_let_by": "program",
    },
    "lexer": {"tokens": "line, number"},
    "reader": {"read_program": "text"},
    "writer": {"write_program": "program", "write_expression": "expression"},
    "library": {
        "semaphore": "name, n", "barrier": "name, n", "channel": "name, n", "exchange": "name", "take": "name",
        "give": "name", "meet": "name, n, x", "send": "name, n, expression", "receive": "name, n, x",
        "swap": "name, x, role",
    },
    "values": {
        "is_value": "value", "evaluate": "expression, locals_now, cells=(), memory=()", "first_memory": "cells",
        "cell_number": "cells, name, index",
    },
    "plain": {
        "Outcome": "kind, *, reads, writes, finals, later, reason=None", "same_outcome": "outcome, other",
        "run_block": "body, cells, locals_now, memory",
    },
    "flat": {"flat_block": "body, cells, names", "flat_thread": "thread, cells", "has_cells": "expression"},
    "walk": {"evaluate_slots": "expression, frame", "walk_block": "code, frame, locals_count, memory"},
    "stripes": {
        "Stripes": "count", "Stripes.stripe_of": "cell", "Stripes.version": "stripe", "Stripes.owner": "stripe",
        "Stripes.tick": "", "Stripes.lock": "stripe, thread", "Stripes.free": "stripe, thread",
        "Stripes.stamp": "stripe, thread, version", "Stripes.is_open": "stripe, thread, version",
    },
    "attempt": {
        "Try": "thread, code, frame, stripes", "Try.step": "memory", "run_try": "memory, thread, code, frame, stripes",
    },
    "commit": {
        "Commit": "attempt, stripes", "Commit.next_step": "", "Commit.step": "memory",
        "run_commit": "memory, attempt, stripes",
    },
    "machine": {
        "Record": "thread, begun, ended, kind, reads, writes, stamp", "Machine": "program, *, stripes=4",
        "Machine.step": "thread", "Machine.tick": "", "Machine.run": "picks", "Machine.settle": "*, most=10000",
        "Machine.memory": "", "Machine.said": "", "Machine.stages": "", "Machine.records": "", "Machine.moment": "",
        "Machine.ticks": "", "Machine.current_reads": "thread", "Machine.is_committing": "", "Machine.is_at_rest": "",
        "Machine.end": "", "stamped": "records",
    },
    "orders": {
        "memory_behind": "memory, records, order, k", "agrees": "reads, memory",
        "pasts": "memory, records, order, index", "is_order": "memory, records, order",
        "find_order": "memory, records",
    },
    "world": {
        "World": "program", "World.first": "", "World.possible": "state", "World.after": "state, step",
        "World.end_of": "state", "World.outcome": "state, number", "run_order": "program, order",
    },
    "explore": {"explore": "program", "reachable": "program"},
    "reduce": {
        "independent": "program, state, first, second", "reduced_orders": "program", "reduced_ends": "program",
    },
    "closed": {"shows": "program, states, ends"},
    "report": {
        "machine_report": "program, machine", "records_report": "program, records", "ends_report": "program",
    },
    "desk": {"Desk": "", "Desk.obey": "line", "Desk.lines": "", "Desk.picks": "", "answers_of": "lines"},
}


class InterfaceTest(unittest.TestCase):
    def entries(self):
        for name, entries in INTERFACE.items():
            module = importlib.import_module("handshaker." + name)
            for path, parameters in entries.items():
                yield module, path, parameters

    def test_names_and_arguments(self):
        for module, path, parameters in self.entries():
            with self.subTest(module=module.__name__, name=path):
                owner, _, method = path.partition(".")
                found = vars(module)[owner]
                self.assertEqual(found.__module__, module.__name__)
                if method:
                    found = vars(found)[method]
                elif parameters is not None and inspect.isclass(found):
                    found = vars(found)["__init__"]
                if parameters is not None:
                    expected = ", ".join(["self"] * bool(method or found.__name__ == "__init__") + [parameters] * bool(parameters))
                    self.assertEqual(str(inspect.signature(found)), f"({expected})")

    def test_errors_stand_directly_below_their_base(self):
        module = importlib.import_module("handshaker.errors")
        found = [one for one in vars(module).values() if inspect.isclass(one)]
        for one in found:
            base = ValueError if one is module.HandshakerError else module.HandshakerError
            self.assertEqual(one.__bases__, (base,))

    def test_errors_have_their_attributes(self):
        module = importlib.import_module("handshaker.errors")
        for name, parameters in INTERFACE["errors"].items():
            names = parameters.split(", ") if parameters else []
            error = getattr(module, name)(*range(len(names)))
            self.assertEqual([getattr(error, one) for one in names], list(range(len(names))))


if __name__ == "__main__":
    unittest.main()

"""What the document promises over the whole program (point 1), and that its interface is all there."""

import importlib
import inspect
import unittest
from copy import deepcopy
from random import Random

from butfewrows.changing import Bench, changed, harmless
from butfewrows.covers import cover, covering
from butfewrows.differing import count_unlike, kth_unlike, longest, ring, unlike_of, word
from butfewrows.errors import (BadGood, BadHow, BadMachines, BadNumber, BadRow, BadRows, BadStand, BadStep, BadSteps,
                               InvalidText, MachineError, NotComparable, TooMany)
from butfewrows.growing import growth, twins
from butfewrows.machines import Machine, lets, stand_behind
from butfewrows.mending import lots, mended, unlike_rows
from butfewrows.near import apart, fewest, kinds, lean, rows_to
from butfewrows.small import joined, small
from butfewrows.texts import read, write
from butfewrows.wrong import best_lean, least_wrong

from tests.plain import chain, letting_all, letting_none, some_machine, some_near_pair, wheel

INTERFACE = {
    "machines": {"stand_behind": ["machine", "row"], "lets": ["machine", "row"]},
    "differing": {"word": ["one", "other"], "count_unlike": ["one", "other"], "longest": ["one", "other"],
                  "unlike_of": ["one", "other", "length"], "kth_unlike": ["one", "other", "k"],
                  "ring": ["one", "other"]},
    "near": {"apart": ["machine", "one", "other"], "rows_to": ["machine", "stand"], "kinds": ["machine"],
             "fewest": ["machine"], "lean": ["machine"]},
    "small": {"small": ["machine"], "joined": ["one", "other", "how"]},
    "changing": {"changed": ["machine", "stand", "letter", "goal"], "harmless": ["machine"]},
    "texts": {"write": ["machine"], "read": ["text"]},
    "growing": {"growth": ["one", "other"], "twins": ["one", "other"]},
    "covers": {"cover": ["machine", "length"], "covering": ["machine", "length"]},
    "mending": {"mended": ["machine", "rows"], "unlike_rows": ["one", "other"], "lots": ["machines"]},
    "wrong": {"least_wrong": ["machine"], "best_lean": ["machine"]},
}
CLASSES = {
    ("machines", "Machine"): {"__init__": ["self", "steps", "good"], "__len__": ["self"], "__eq__": ["self", "other"]},
    ("changing", "Bench"): {"__init__": ["self", "machine"], "lead": ["self", "stand", "letter", "goal"],
                            "turn": ["self", "stand"], "undo": ["self"], "copy": ["self"], "__len__": ["self"]},
}
PROPERTIES = {("machines", "Machine"): ("steps", "good"), ("changing", "Bench"): ("machine",)}


def led_bench(machine):
    """All that a bench tells of some changes."""
    bench = Bench(machine)
    told = [bench.lead(0, 0, len(machine) - 1), bench.turn(len(machine) - 1), bench.turn(0), len(bench)]
    other = bench.copy()
    return told + [bench.undo(), len(bench), bench.machine, other.turn(0), len(other), other.machine,
                   [bench.undo() for _ in range(3)], bench.machine]


ASKED = {
    "Machine": lambda one, other: [Machine(one.steps, one.good), len(one), one == other, one == one],
    "stand_behind": lambda one, other: [stand_behind(one, row) for row in ((), (0,), (0, 0, 0))],
    "lets": lambda one, other: [lets(one, row) for row in ((), (0,), (0, 0, 0))],
    "word": word,
    "count_unlike": count_unlike,
    "longest": longest,
    "unlike_of": lambda one, other: [unlike_of(one, other, length) for length in (0, 1, 5, 200)],
    "kth_unlike": lambda one, other: tried(kth_unlike, one, other, 2),
    "ring": ring,
    "apart": lambda one, other: [apart(one, stand, 0) for stand in range(len(one))],
    "kinds": lambda one, other: kinds(one),
    "rows_to": lambda one, other: [rows_to(one, stand) for stand in range(len(one))],
    "fewest": lambda one, other: fewest(one),
    "lean": lambda one, other: lean(one),
    "small": lambda one, other: small(one),
    "joined": lambda one, other: [tried(joined, one, other, how) for how in ("either", "both", "just one")],
    "changed": lambda one, other: changed(one, 0, 0, len(one) - 1),
    "harmless": lambda one, other: harmless(one),
    "Bench": lambda one, other: led_bench(one),
    "write": lambda one, other: write(one),
    "read": lambda one, other: read(write(one)),
    "growth": growth,
    "twins": twins,
    "cover": lambda one, other: [cover(one, length) for length in (0, 2, 40)],
    "covering": lambda one, other: [covering(one, length) for length in (0, 2, 40)],
    "mended": lambda one, other: [tried(mended, one, rows) for rows in ([()], ((0,), ()), [(0, 0)])],
    "unlike_rows": lambda one, other: tried(unlike_rows, one, other),
    "lots": lambda one, other: lots([one, other, one]),
    "least_wrong": lambda one, other: least_wrong(one),
    "best_lean": lambda one, other: best_lean(one),
}
RETURN_LISTS = ("harmless", "unlike_rows", "lots")


def tried(function, *passed):
    """What a function returns, or the name of the error that it raises."""
    try:
        return function(*passed)
    except MachineError as error:
        return error.__class__.__name__


def plainly_told(found):
    """A value with all machines in it written out, and apart from what may be changed."""
    if isinstance(found, Machine):
        return ("machine", found.steps, found.good)
    if isinstance(found, (list, tuple)):
        return (type(found).__name__, [plainly_told(each) for each in found])
    return (type(found).__name__, found)


def some_pairs():
    """Pairs of machines with few and with many rows at which they differ, and with none."""
    chance = Random(81)
    pairs = [(letting_all(2), letting_none(2)), (chain(4, 2), letting_all(2)), (chain(5, 1), wheel(4, (3,))),
             (wheel(8, (0, 4)), wheel(4, (0,))), (chain(8, 3), letting_all(3)), (chain(6, 3), chain(5, 3))]
    for letters in range(1, 4):
        for stands in (1, 3, 6, 8):
            pairs.append((some_machine(chance, stands, letters), some_machine(chance, 3, letters)))
            if stands > 1:
                pairs.append(tuple(some_near_pair(chance, stands, stands // 2, letters)))
    return pairs


class RepeatTests(unittest.TestCase):
    def change(self, found):
        """Change a returned list, as far as it is one."""
        if isinstance(found, list):
            found.reverse()
            found.append("changed")
            del found[:1]

    def test_all_functions_are_asked_here(self):
        names = {name for functions in INTERFACE.values() for name in functions} | {name for _, name in CLASSES}
        self.assertEqual(set(ASKED), names)

    def test_one_and_another_and_the_first_again(self):
        pairs = some_pairs()
        for name, asked in ASKED.items():
            with self.subTest(name):
                told = []
                for pair in pairs:
                    found = asked(*pair)
                    told.append(plainly_told(found))
                    self.change(found)
                for pair, before in zip(pairs + pairs[::-1], told + told[::-1]):
                    found = asked(*pair)
                    self.assertEqual(plainly_told(found), before)
                    self.change(found)

    def test_equal_machines_made_anew_give_equal_results(self):
        for name, asked in ASKED.items():
            for one, other in some_pairs():
                anew = [Machine(tuple(tuple(list(leads)) for leads in each.steps), tuple(list(each.good)))
                        for each in (one, other)]
                self.assertEqual(plainly_told(asked(one, other)), plainly_told(asked(*anew)), name)

    def test_returned_lists_are_new(self):
        pairs = some_pairs()
        for name in RETURN_LISTS:
            kinds_seen = set()
            for pair in pairs:
                found, again = ASKED[name](*pair), ASKED[name](*pair)
                kinds_seen.add(type(found))
                if isinstance(found, list):
                    self.assertIsNot(found, again)
            self.assertIn(list, kinds_seen)

    def test_arguments_are_not_modified(self):
        for name, asked in ASKED.items():
            for one, other in some_pairs():
                before = plainly_told((one, other))
                asked(one, other)
                self.assertEqual(plainly_told((one, other)), before, name)

    def test_lists_that_are_passed_stay(self):
        rows = [(0, 1), (), (1, 1, 0)]
        machines = [chain(3, 2), letting_all(2), letting_none(2)]
        before = list(machines)
        for _ in range(2):
            mended(letting_none(2), rows)
            lots(machines)
        self.assertEqual(rows, [(0, 1), (), (1, 1, 0)])
        self.assertEqual(len(machines), 3)
        self.assertTrue(all(one is other for one, other in zip(machines, before)))


# Calls to which several errors apply, the one that the document names first, and its fields.
FAULTS = (
    (lambda: Machine(((0,), (5,), ()), "no"), BadSteps, {"index": 1}),
    (lambda: Machine([], [5]), BadSteps, {"index": None}),
    (lambda: Machine(((0,),), (0, 0)), BadGood, {}),
    (lambda: stand_behind(chain(2, 1), (0, 1, None)), BadRow, {"index": 1}),
    (lambda: lets(chain(2, 1), (7,) * 41), BadRow, {"index": None}),
    (lambda: unlike_of(chain(2, 1), chain(2, 2), 201), NotComparable, {}),
    (lambda: kth_unlike(chain(2, 1), chain(2, 2), 1001), NotComparable, {}),
    (lambda: kth_unlike(chain(2, 2), chain(2, 2), 1001), BadNumber, {}),
    (lambda: ring(chain(2, 1), chain(2, 2)), NotComparable, {}),
    (lambda: apart(chain(2, 1), 2, True), BadStand, {}),
    (lambda: rows_to(chain(2, 1), None), BadStand, {}),
    (lambda: joined(wheel(8, (0,)), chain(2, 2), "no"), NotComparable, {}),
    (lambda: joined(wheel(8, (0,)), wheel(7, (0,)), "no"), BadHow, {}),
    (lambda: joined(wheel(8, (0,)), wheel(7, (0,)), "both"), TooMany, {}),
    (lambda: changed(chain(2, 1), 2, 1, 2), BadStand, {}),
    (lambda: changed(chain(2, 1), 1, 1, 2), BadStep, {}),
    (lambda: read("bad 1 0\ngood 1"), InvalidText, {"line": 2, "word": 3}),
    (lambda: read("bad 8 9\ngood\n"), InvalidText, {"line": 1, "word": 2}),
    (lambda: growth(chain(2, 1), chain(2, 2)), NotComparable, {}),
    (lambda: twins(chain(2, 1), chain(2, 2)), NotComparable, {}),
    (lambda: cover(chain(2, 1), 41), BadNumber, {}),
    (lambda: covering(chain(2, 1), True), BadNumber, {}),
    (lambda: mended(wheel(8, (0,)), [(), (0,), (), (1,)]), BadRows, {"index": 2}),
    (lambda: mended(wheel(8, (0,)), [(9,)] * 11), BadRows, {"index": None}),
    (lambda: mended(wheel(8, (0,)), [()]), TooMany, {}),
    (lambda: unlike_rows(chain(8, 3), letting_all(2)), NotComparable, {}),
    (lambda: unlike_rows(chain(8, 3), letting_all(3)), TooMany, {}),
    (lambda: lots([chain(2, 1), chain(2, 2), None]), BadMachines, {"index": 2}),
    (lambda: lots([chain(2, 1), None] * 5), BadMachines, {"index": None}),
    (lambda: lots((chain(2, 1), chain(2, 2))), NotComparable, {}),
)


class ErrorTests(unittest.TestCase):
    def test_the_error_that_is_named_first_is_raised(self):
        for at, (call, error, fields) in enumerate(FAULTS):
            with self.subTest(at=at, error=error.__name__):
                for _ in range(2):
                    with self.assertRaises(error) as caught:
                        call()
                    self.assertIs(type(caught.exception), error)
                    self.assertEqual(vars(caught.exception), fields)

    def test_calls_that_raise_an_error_change_nothing(self):
        machine, other = chain(8, 3), letting_all(3)
        rows, machines = [(0,), (), (0,)], [machine, None]
        bench = Bench(machine)
        bench.turn(0)
        bad = {"x": [0]}
        passed = deepcopy(bad)
        calls = (lambda: stand_behind(machine, bad), lambda: unlike_of(machine, other, bad),
                 lambda: kth_unlike(machine, other, bad), lambda: apart(machine, 0, bad),
                 lambda: rows_to(machine, bad), lambda: joined(machine, other, bad),
                 lambda: changed(machine, 0, bad, 0), lambda: bench.lead(0, 0, bad), lambda: bench.lead(bad, 0, 0),
                 lambda: bench.turn(bad), lambda: cover(machine, bad), lambda: covering(machine, bad),
                 lambda: mended(machine, bad), lambda: mended(machine, rows), lambda: mended(machine, [(0,), bad]),
                 lambda: unlike_rows(machine, other), lambda: lots(bad), lambda: lots(machines))
        for at, call in enumerate(calls):
            with self.subTest(at=at):
                with self.assertRaises(MachineError):
                    call()
        self.assertEqual(bad, passed)
        self.assertEqual(rows, [(0,), (), (0,)])
        self.assertTrue(len(machines) == 2 and machines[0] is machine and machines[1] is None)
        self.assertTrue(machine == chain(8, 3) and other == letting_all(3))
        self.assertEqual((len(bench), bench.machine.good), (1, (0, 7)))


class InterfaceTests(unittest.TestCase):
    def arguments(self, function):
        return list(inspect.signature(function).parameters)

    def test_functions(self):
        for file, functions in INTERFACE.items():
            module = importlib.import_module(f"butfewrows.{file}")
            for name, arguments in functions.items():
                with self.subTest(file=file, name=name):
                    self.assertEqual(getattr(module, name).__module__, module.__name__)
                    self.assertEqual(self.arguments(getattr(module, name)), arguments)

    def test_classes(self):
        for (file, name), methods in CLASSES.items():
            module = importlib.import_module(f"butfewrows.{file}")
            found = vars(getattr(module, name))
            self.assertEqual(found["__module__"], module.__name__)
            for method, arguments in methods.items():
                self.assertEqual(self.arguments(found[method]), arguments)
            for each in PROPERTIES[file, name]:
                self.assertIsInstance(found[each], property)

    def test_an_object_is_equal_to_nothing_of_another_kind(self):
        machine = chain(3, 2)
        for thing in (machine, Bench(machine)):
            for other in (None, True, 0, 3, "", "chain", (), (machine.steps, machine.good), [], {}, chain(2, 2)):
                self.assertFalse(thing == other)
                self.assertTrue(thing != other)
        self.assertFalse(machine == Bench(machine))
        self.assertFalse(Bench(machine) == machine)


if __name__ == "__main__":
    unittest.main()

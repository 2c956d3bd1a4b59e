import unittest
from random import Random

from butfewrows import changing
from butfewrows.changing import Bench, changed, harmless
from butfewrows.errors import BadStand, BadStep
from butfewrows.machines import Machine

from tests.plain import chain, every_machine, letting_all, letting_none, plain_count, some_machine, wheel

NO_NUMBERS = (-1, -10 ** 30, 10 ** 30, True, False, "0", "", None, (), (0,), [], [0], {}, {0: 0})


def plainly_changed(machine, stand, letter, goal):
    steps = [list(leads) for leads in machine.steps]
    steps[stand][letter] = goal
    return Machine(tuple(tuple(leads) for leads in steps), machine.good)


def plainly_turned(machine, stand):
    return Machine(machine.steps, tuple(sorted(set(machine.good) ^ {stand})))


def all_changes(machine):
    return [(stand, letter, goal) for stand in range(len(machine)) for letter in range(len(machine.steps[0]))
            for goal in range(len(machine))]


def bad_steps(machine):
    """Calls of a step that cannot be changed so, with the error that is named first."""
    stands, letters = len(machine), len(machine.steps[0])
    found = [(BadStand, (bad, 0, 0)) for bad in NO_NUMBERS + (stands,)]
    found += [(BadStep, (stands - 1, bad, 0)) for bad in NO_NUMBERS + (letters, 3)]
    found += [(BadStand, (stands - 1, letters - 1, bad)) for bad in NO_NUMBERS + (stands, 8)]
    for bad in NO_NUMBERS:
        found += [(BadStand, (bad, bad, bad)), (BadStand, (bad, bad, 0)), (BadStand, (bad, 0, bad)),
                  (BadStep, (0, bad, bad))]
    return found


class ExampleTests(unittest.TestCase):
    def test_example(self):
        late = Machine(((1, 1), (2, 2), (2, 2)), (2,))
        self.assertEqual([changed(late, 0, 1, 2).steps, harmless(late)],
                         [((1, 2), (2, 2), (2, 2)), [(0, 0, 2), (0, 1, 2)]])
        bench = Bench(late)
        self.assertEqual([bench.lead(0, 0, 2), bench.turn(0), bench.turn(2), bench.undo(), bench.machine.good,
                          len(bench)], [1, 2, None, True, (0, 2), 2])


class ChangedTests(unittest.TestCase):
    def test_all_steps(self):
        chance = Random(31)
        for letters in range(1, 4):
            for stands in (1, 2, 3, 8):
                machine = some_machine(chance, stands, letters)
                for change in all_changes(machine):
                    found = changed(machine, *change)
                    self.assertIs(type(found), Machine)
                    self.assertTrue(found == plainly_changed(machine, *change))

    def test_a_step_to_where_it_leads_already(self):
        machine = chain(3, 2)
        self.assertTrue(changed(machine, 1, 1, 2) == machine)

    def test_wrong_values(self):
        for machine in (letting_all(1), chain(3, 2), wheel(8, (0,)), chain(8, 3)):
            for error, change in bad_steps(machine):
                with self.subTest(stands=len(machine), change=change):
                    with self.assertRaises(error):
                        changed(machine, *change)


class HarmlessTests(unittest.TestCase):
    def check_harmless(self, machine):
        found = harmless(machine)
        self.assertIs(type(found), list)
        self.assertEqual(found, [change for change in all_changes(machine)
                                 if machine.steps[change[0]][change[1]] != change[2]
                                 and plain_count(machine, plainly_changed(machine, *change)) is not None])
        return len(found)

    def test_all_small_machines(self):
        for machine in every_machine(1, 3) + every_machine(3, 1) + every_machine(2, 2):
            self.check_harmless(machine)

    def test_some_machines(self):
        chance = Random(32)
        for letters in range(1, 4):
            seen = [self.check_harmless(some_machine(chance, stands, letters))
                    for stands in range(2, 9) for _ in range(3)]
            self.assertTrue(any(seen))

    def test_one_stand_and_eight(self):
        for letters in range(1, 4):
            self.assertEqual(harmless(letting_all(letters)), [])
            self.assertEqual(harmless(letting_none(letters)), [])
            self.check_harmless(chain(8, letters))
        self.assertEqual(harmless(wheel(8, (0,))), [])
        # A machine that lets no row by lets none by whatever its steps are, and these are alike.
        self.assertEqual(len(harmless(wheel(8, ()))), 8 * 7)
        # So is each change of a stand that no row comes to.
        self.assertEqual(harmless(Machine(((0,), (1,)), (0,))), [(1, 0, 0)])


class Shadow:
    """What a bench should stand as: a first machine, and the changes that stand."""

    def __init__(self, first, deeds=()):
        self.first = first
        self.deeds = list(deeds)

    def machine(self):
        """The first machine, with all the changes that stand made anew."""
        machine = self.first
        for deed in self.deeds:
            machine = plainly_changed(machine, *deed) if len(deed) == 3 else plainly_turned(machine, *deed)
        return machine


class BenchTests(unittest.TestCase):
    def check_stands(self, bench, shadow):
        self.assertTrue(bench.machine == shadow.machine())
        self.assertEqual(len(bench), len(shadow.deeds))

    def do(self, bench, shadow, deed):
        found = bench.lead(*deed) if len(deed) == 3 else bench.turn(*deed)
        shadow.deeds.append(deed)
        self.assertEqual(found, plain_count(shadow.first, shadow.machine()))
        self.check_stands(bench, shadow)
        return found

    def take_back(self, bench, shadow):
        there = bool(shadow.deeds)
        self.assertIs(bench.undo(), there)
        if there:
            shadow.deeds.pop()
        self.check_stands(bench, shadow)

    def refuse(self, bench, shadow):
        """Deeds that are refused, and that leave all as it was."""
        machine = bench.machine
        for error, change in bad_steps(machine):
            with self.assertRaises(error):
                bench.lead(*change)
        for stand in NO_NUMBERS + (len(machine),):
            with self.assertRaises(BadStand):
                bench.turn(stand)
        self.check_stands(bench, shadow)

    def some_deed(self, chance, bench, shadow):
        stands, letters = len(shadow.first), len(shadow.first.steps[0])
        place = chance.randrange(8)
        if place < 3:
            step = (chance.randrange(stands), chance.randrange(letters), chance.randrange(stands))
            return self.do(bench, shadow, step)
        if place < 5:
            return self.do(bench, shadow, (chance.randrange(stands),))
        if place < 7:
            self.take_back(bench, shadow)
        else:
            self.refuse(bench, shadow)
        return 0

    def test_a_new_bench(self):
        for machine in (letting_none(3), chain(8, 2)):
            bench = Bench(machine)
            self.check_stands(bench, Shadow(machine))
            self.assertIs(type(bench.machine), Machine)
            self.assertIs(bench.undo(), False)
            self.check_stands(bench, Shadow(machine))
            self.refuse(bench, Shadow(machine))
            self.assertIs(bench.undo(), False)

    def test_runs_of_deeds(self):
        chance = Random(33)
        seen = set()
        for letters in range(1, 4):
            for stands in range(1, 9):
                machine = chance.choice((some_machine(chance, stands, letters), chain(stands, letters)))
                bench, shadow = Bench(machine), Shadow(machine)
                for _ in range(40):
                    seen.add(self.some_deed(chance, bench, shadow))
                while shadow.deeds:
                    self.take_back(bench, shadow)
                self.assertIs(bench.undo(), False)
                self.assertTrue(bench.machine == machine)
        self.assertLessEqual({None, 0, 1, 2, 3}, seen)

    def test_copies_go_on_by_themselves(self):
        chance = Random(34)
        for letters in range(1, 4):
            for stands in (1, 3, 8):
                machine = chain(stands, letters)
                pairs = [(Bench(machine), Shadow(machine))]
                for _ in range(80):
                    bench, shadow = chance.choice(pairs)
                    self.some_deed(chance, bench, shadow)
                    if len(pairs) < 6 and chance.random() < 0.2:
                        other = bench.copy()
                        self.assertIs(type(other), Bench)
                        pairs.append((other, Shadow(machine, shadow.deeds)))
                    for each in pairs:
                        self.check_stands(*each)
                for bench, shadow in pairs:
                    while shadow.deeds:
                        self.take_back(bench, shadow)
                    self.assertIs(bench.undo(), False)

    def test_a_copy_counts_from_the_same_first_machine(self):
        bench = Bench(chain(4, 2))
        self.assertEqual((bench.turn(1), bench.turn(2)), (2, 6))
        other = bench.copy()
        self.assertEqual((other.turn(0), len(other), len(bench)), (7, 3, 2))
        self.assertEqual((bench.turn(1), bench.machine.good, other.machine.good), (4, (2, 3), (0, 1, 2, 3)))
        self.assertEqual([other.undo() for _ in range(4)], [True, True, True, False])
        self.assertEqual((other.machine.good, bench.machine.good, len(bench)), ((3,), (2, 3), 3))

    def test_changes_without_a_difference_stand_as_well(self):
        bench = Bench(chain(3, 2))
        self.assertEqual([bench.lead(0, 0, 1), len(bench), bench.turn(1), bench.turn(1), len(bench)], [0, 1, 2, 0, 3])
        self.assertEqual([bench.undo(), bench.machine.good, len(bench)], [True, (1, 2), 2])

    def test_good_stands_stay_ascending(self):
        bench = Bench(Machine(((0,),) * 8, (3, 5)))
        for stand in (7, 0, 4, 3):
            bench.turn(stand)
        self.assertEqual(bench.machine.good, (0, 4, 5, 7))

    def test_machines_that_were_read_off_stay(self):
        bench = Bench(chain(3, 2))
        machine = bench.machine
        bench.turn(0)
        then = bench.machine
        bench.lead(0, 0, 0)
        bench.undo()
        self.assertTrue(machine == chain(3, 2))
        self.assertTrue(then == bench.machine == Machine(chain(3, 2).steps, (0, 2)))

    def test_methods_stand_in_the_class(self):
        self.assertIsInstance(vars(Bench)["machine"], property)
        for name in ("__init__", "__len__", "lead", "turn", "undo", "copy"):
            self.assertIn(name, vars(Bench))
        with self.assertRaises(AttributeError):
            Bench(chain(3, 2)).machine = chain(2, 2)


class CallTests(unittest.TestCase):
    def test_nothing_is_modified_and_calls_repeat(self):
        machine = chain(4, 2)
        self.assertTrue(changed(machine, 0, 1, 2) == changed(machine, 0, 1, 2))
        found = harmless(machine)
        self.assertEqual(harmless(machine), found)
        found.clear()
        self.assertNotEqual(harmless(machine), found)
        bench = Bench(machine)
        for bad in ([0], {0: 0}):
            before = type(bad)(bad)
            for asked in ((bench.turn, bad), (bench.lead, bad, 0, 0), (bench.lead, 0, bad, 0), (bench.lead, 0, 0, bad)):
                with self.assertRaises((BadStand, BadStep)):
                    asked[0](*asked[1:])
            self.assertEqual(bad, before)
        bench.turn(0)
        bench.lead(1, 1, 1)
        self.assertTrue(machine == chain(4, 2))

    def test_kinds_of_values(self):
        bench = Bench(chain(3, 2))
        self.assertIs(type(bench.lead(0, 0, 1)), int)
        self.assertIs(type(bench.turn(0)), int)
        self.assertIs(type(len(bench)), int)
        for change in harmless(chain(3, 2)):
            self.assertIs(type(change), tuple)

    def test_all_are_defined_there(self):
        for name in ("changed", "harmless", "Bench"):
            self.assertEqual(getattr(changing, name).__module__, "butfewrows.changing")


if __name__ == "__main__":
    unittest.main()

import unittest
from random import Random

from butfewrows.errors import BadGood, BadRow, BadSteps
from butfewrows.machines import Machine, lets, stand_behind

from tests.plain import all_rows, every_machine, plainly_behind, plainly_lets, some_machine

NO_STANDS = (-1, 2, 10 ** 30, -10 ** 30, True, False, "0", "", None, (), (0,), [0], {0: 0})
NO_TUPLES = (None, 0, 1, True, "", "00", [], [0], [(0,)], {}, {0: (0,)})


class Alike:
    """A thing of another kind that looks like a machine."""

    def __init__(self, steps, good):
        self.steps = steps
        self.good = good


class EqualToAll:
    def __eq__(self, other):
        return True


class ExampleTests(unittest.TestCase):
    def test_example(self):
        machine = Machine(((1, 0), (1, 2), (2, 2)), (2,))
        self.assertEqual(stand_behind(machine, (0, 0)), 1)
        self.assertIs(lets(machine, (0, 1, 0)), True)
        self.assertIs(lets(machine, ()), False)


class MachineTests(unittest.TestCase):
    def bad_steps(self, steps, index, good=()):
        with self.assertRaises(BadSteps) as caught:
            Machine(steps, good)
        self.assertEqual(caught.exception.index, index)
        self.assertIs(type(caught.exception.index), type(index))

    def bad_good(self, steps, good):
        with self.assertRaises(BadGood):
            Machine(steps, good)

    def test_ordinary_machines(self):
        chance = Random(1)
        for stands in range(1, 9):
            for letters in range(1, 4):
                steps = tuple(tuple(chance.randrange(stands) for _ in range(letters)) for _ in range(stands))
                for good in ((), (stands - 1,), tuple(range(stands))):
                    with self.subTest(steps=steps, good=good):
                        machine = Machine(steps, good)
                        self.assertEqual((machine.steps, machine.good, len(machine)), (steps, good, stands))
                        self.assertIs(type(machine.steps), tuple)
                        self.assertIs(type(machine.good), tuple)

    def test_properties_are_properties(self):
        machine = Machine(((0,),), ())
        for name in ("steps", "good"):
            self.assertIsInstance(vars(Machine)[name], property)
            with self.assertRaises(AttributeError):
                setattr(machine, name, ())

    def test_methods_stand_in_the_class(self):
        for name in ("__init__", "__len__", "__eq__"):
            self.assertIn(name, vars(Machine))

    def test_equality(self):
        machines = every_machine(2, 1) + every_machine(1, 1) + every_machine(1, 2)
        for at, one in enumerate(machines):
            for place, other in enumerate(machines):
                self.assertIs(one == other, at == place)
                self.assertIs(one != other, at != place)
            again = Machine(tuple(list(one.steps)), tuple(list(one.good)))
            self.assertTrue(one == again)
            self.assertFalse(one != again)

    def test_equal_to_nothing_of_another_kind(self):
        machine = Machine(((0,),), (0,))
        others = (((((0,),), (0,))), [((0,),), (0,)], ((0,),), 1, True, None, "", {}, Alike(((0,),), (0,)), EqualToAll())
        for other in others:
            with self.subTest(other=other):
                self.assertFalse(machine == other)
                self.assertTrue(machine != other)

    def test_steps_that_are_no_tuple_of_rows(self):
        for steps in NO_TUPLES + ((), ((0,),) * 9, ((8,),) * 9, (None,) * 9, [(0,), (0,)]):
            with self.subTest(steps=steps):
                self.bad_steps(steps, None)

    def test_rows_that_are_no_tuples(self):
        for row in NO_TUPLES:
            for steps, index in (((row,), 0), ((row, (0,)), 0), (((0,), row), 1), (((0,), (1,), row, (0,)), 2)):
                with self.subTest(steps=steps):
                    self.bad_steps(steps, index)

    def test_rows_of_no_letters_and_of_four(self):
        for row in ((), (0, 0, 0, 0), (0,) * 50):
            self.bad_steps((row,), 0)
            self.bad_steps((row, row), 0)
            self.bad_steps((row[:3] or (0,), row), 1)

    def test_rows_of_another_length_than_the_first(self):
        self.bad_steps(((0,), (0, 1)), 1)
        self.bad_steps(((0, 1), (0,)), 1)
        self.bad_steps(((0, 1), (0, 1), (0, 1, 1), (0,)), 2)
        self.bad_steps(((0, 1, 2), (0, 1, 2), (0, 1)), 2)

    def test_stands_that_are_none(self):
        for stand in NO_STANDS:
            for steps, index in ((((stand, 0), (0, 0)), 0), (((0, stand), (0, 0)), 0),
                                 (((0, 1), (stand, 0)), 1), (((0, 1), (0, stand)), 1)):
                with self.subTest(steps=steps):
                    self.bad_steps(steps, index)

    def test_the_last_stand_is_a_stand_and_the_next_is_none(self):
        for stands in range(1, 9):
            self.assertEqual(len(Machine(((stands - 1,),) * stands, (stands - 1,))), stands)
            self.bad_steps(((0,),) * (stands - 1) + ((stands,),), stands - 1)
            self.bad_good(((0,),) * stands, (stands,))

    def test_good_that_is_no_tuple(self):
        for good in NO_TUPLES:
            with self.subTest(good=good):
                self.bad_good(((0,),), good)

    def test_good_that_is_not_ascending_or_has_a_stand_twice(self):
        steps = ((0,), (1,), (2,))
        for good in ((1, 0), (2, 0, 1), (0, 2, 1), (0, 0), (1, 1), (0, 1, 1), (0, 0, 1), (0, 1, 2, 2)):
            with self.subTest(good=good):
                self.bad_good(steps, good)

    def test_good_with_what_is_no_stand(self):
        for stand in NO_STANDS:
            for good in ((stand,), (0, stand), (stand, 1), (0, stand, 1)):
                with self.subTest(good=good):
                    self.bad_good(((0,), (1,)), good)

    def test_of_several_faults_the_first_is_told(self):
        self.bad_steps(((0,), (9,), ()), 1, good="no")
        self.bad_steps(((), (9,), ()), 0, good=(9,))
        self.bad_steps(((0, 0), (0,), (9, 9)), 1, good=None)
        self.bad_steps(((9,), (0, 0)), 0)
        self.bad_steps((), None, good=(0,))
        self.bad_steps([()], None, good=(1, 0))
        self.bad_steps(((0,),) * 8 + ((),), None)

    def test_an_error_changes_nothing(self):
        machine = Machine(((0, 1), (1, 1)), (1,))
        steps, good = [(0,)], [0]
        for passed in ((steps, ()), (((0,),), good), (((0,),), (1,))):
            with self.assertRaises(ValueError):
                machine.__init__(*passed)
        self.assertTrue(machine == Machine(((0, 1), (1, 1)), (1,)))
        self.assertEqual((steps, good), ([(0,)], [0]))


class RowTests(unittest.TestCase):
    def bad_row(self, machine, row, index):
        for asked in (stand_behind, lets):
            with self.subTest(asked.__name__, row=row):
                with self.assertRaises(BadRow) as caught:
                    asked(machine, row)
                self.assertEqual(caught.exception.index, index)
                self.assertIs(type(caught.exception.index), type(index))

    def test_against_plain_runs(self):
        chance = Random(2)
        for letters in range(1, 4):
            for stands in range(1, 9):
                machine = some_machine(chance, stands, letters)
                for row in all_rows(letters, 5):
                    self.assertEqual(stand_behind(machine, row), plainly_behind(machine, row))
                    self.assertIs(lets(machine, row), plainly_lets(machine, row))

    def test_the_empty_row(self):
        self.assertEqual(stand_behind(Machine(((1,), (1,)), (1,)), ()), 0)
        self.assertIs(lets(Machine(((1,), (1,)), (1,)), ()), False)
        self.assertIs(lets(Machine(((1,), (1,)), (0,)), ()), True)

    def test_rows_of_forty_letters_and_of_more(self):
        machine = Machine(((1, 0), (2, 0), (0, 0)), (1,))
        self.assertEqual(stand_behind(machine, (0,) * 40), 1)
        self.assertIs(lets(machine, (0,) * 40), True)
        for row in ((0,) * 41, (0,) * 1000, (7,) * 41, (None,) * 41):
            self.bad_row(machine, row, None)

    def test_things_that_are_no_letters(self):
        machine = Machine(((1, 0), (1, 1), (2, 2)), (1,))
        for thing in NO_STANDS:
            self.bad_row(machine, (thing,), 0)
            self.bad_row(machine, (0, 1, thing, 0), 2)
            self.bad_row(machine, (0,) * 39 + (thing,), 39)
            self.bad_row(machine, (1, thing, None, 7), 1)

    def test_letters_of_other_machines(self):
        for letters in range(1, 4):
            machine = Machine(((0,) * letters,) * 8, (0,))
            self.assertIs(lets(machine, (letters - 1,)), True)
            self.bad_row(machine, (0, letters), 1)

    def test_values_that_are_no_rows(self):
        for row in NO_TUPLES:
            self.bad_row(Machine(((0, 0),), ()), row, None)

    def test_nothing_is_modified_and_calls_repeat(self):
        machine, row = Machine(((1, 0), (1, 1)), (1,)), [0, 1]
        self.bad_row(machine, row, None)
        self.assertEqual(row, [0, 1])
        self.assertEqual([stand_behind(machine, (1, 0)) for _ in range(3)], [1, 1, 1])
        self.assertTrue(machine == Machine(((1, 0), (1, 1)), (1,)))


if __name__ == "__main__":
    unittest.main()

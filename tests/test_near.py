import unittest
from random import Random

from butfewrows import near
from butfewrows.errors import BadStand
from butfewrows.machines import Machine
from butfewrows.near import apart, fewest, kinds, lean, rows_to
from butfewrows.small import small

from tests.plain import (chain, every_machine, letting_all, letting_none, plain_count, plain_count_to, plain_kinds,
                         some_machine, some_near_pair, wheel)

NO_STANDS = (-1, -10 ** 30, 10 ** 30, True, False, "0", "", None, (), (0,), [], [0], {}, {0: 0})


def some_machines(chance, each):
    """Machines by chance, of all numbers of stands and letters, and some that lead forwards at first."""
    found = []
    for letters in range(1, 4):
        for stands in range(1, 9):
            found += [some_machine(chance, stands, letters) for _ in range(each)]
            for front in range(1, stands, 2):
                found += some_near_pair(chance, stands, front, letters)[:each]
    return found


def forked(letters):
    """A machine of eight stands in which stands that few rows come to differ at few rows, but from no others."""
    rest = (5,) * (letters - 2)
    return Machine(((1, 2, *rest), (3, 5, *rest), (4, 5, *rest), (5, 6, *rest), (5, 6, *rest), (5, 5, *rest),
                    (6, 7, *rest), (7, 6, *rest)), (3, 6))


class ExampleTests(unittest.TestCase):
    def test_example(self):
        late = Machine(((1, 1), (2, 2), (2, 2)), (2,))
        self.assertEqual([apart(late, 0, 2), apart(late, 0, 1), kinds(late), rows_to(late, 1), rows_to(late, 2),
                          fewest(late), lean(late).steps, lean(late).good],
                         [3, 2, (0, 0, 0), 2, None, 1, ((0, 0),), (0,)])
        turning = Machine(((1, 0), (0, 1)), (0,))
        self.assertEqual([kinds(turning), fewest(turning)], [(0, 1), 2])


class StandTests(unittest.TestCase):
    def test_apart_against_plain_counts(self):
        chance = Random(21)
        seen = []
        for machine in some_machines(chance, 2):
            for _ in range(8):
                one, other = chance.randrange(len(machine)), chance.randrange(len(machine))
                with self.subTest(steps=machine.steps, good=machine.good, one=one, other=other):
                    seen.append(apart(machine, one, other))
                    self.assertEqual(seen[-1], plain_count(machine, machine, (one, other)))
        self.assertLessEqual({None, 0, 1, 2, 3}, set(seen))

    def test_apart_of_all_small_machines(self):
        for machine in every_machine(3, 1) + every_machine(2, 2):
            for one in range(len(machine)):
                for other in range(len(machine)):
                    self.assertEqual(apart(machine, one, other), plain_count(machine, machine, (one, other)))

    def test_apart_edges(self):
        self.assertEqual(apart(letting_all(1), 0, 0), 0)
        for letters in range(1, 4):
            machine = chain(8, letters)
            self.assertEqual(apart(machine, 3, 3), 0)
            self.assertEqual(apart(machine, 6, 7), 1)
            self.assertEqual(apart(machine, 0, 7), sum(letters ** length for length in range(7)))
            self.assertEqual(apart(machine, 7, 0), sum(letters ** length for length in range(7)))
        self.assertIsNone(apart(wheel(8, (0,)), 0, 7))
        # No row comes to the last stands, and yet they differ from others.
        self.assertEqual(apart(Machine(((0, 0), (0, 0), (1, 0)), (1,)), 2, 0), 1)
        self.assertIsNone(apart(Machine(((0, 0), (1, 1)), (1,)), 0, 1))

    def test_kinds_against_plain_counts(self):
        for machine in some_machines(Random(22), 1) + every_machine(3, 1) + every_machine(2, 2):
            with self.subTest(steps=machine.steps, good=machine.good):
                self.assertEqual(kinds(machine), plain_kinds(machine))

    def test_kinds_edges(self):
        self.assertEqual(kinds(letting_none(3)), (0,))
        self.assertEqual(kinds(chain(8, 2)), (0,) * 8)
        self.assertEqual(kinds(wheel(8, (7,))), (0, 1, 2, 3, 4, 5, 6, 7))
        self.assertEqual(kinds(wheel(8, (1, 5))), (0, 1, 2, 3, 0, 1, 2, 3))
        self.assertEqual(kinds(Machine(((0, 0), (1, 1), (0, 0), (1, 1), (0, 0)), (1, 2))), (0, 1, 0, 1, 0))
        self.assertEqual(kinds(forked(2)), (0, 1, 1, 2, 2, 3, 4, 5))

    def test_rows_to_against_plain_counts(self):
        for machine in some_machines(Random(23), 5) + every_machine(3, 1) + every_machine(2, 2):
            for stand in range(len(machine)):
                with self.subTest(steps=machine.steps, stand=stand):
                    self.assertEqual(rows_to(machine, stand), plain_count_to(machine, stand))

    def test_rows_to_edges(self):
        self.assertIsNone(rows_to(letting_all(1), 0))
        self.assertIsNone(rows_to(letting_none(3), 0))
        for letters in range(1, 4):
            self.assertEqual([rows_to(chain(8, letters), stand) for stand in range(8)],
                             [letters ** stand for stand in range(7)] + [None])
        # Good stands are nothing special here.
        for good in ((), (0,), (1,), (0, 1, 2)):
            machine = Machine(((1, 0), (1, 1), (0, 2)), good)
            self.assertEqual([rows_to(machine, stand) for stand in range(3)], [None, None, 0])
        self.assertEqual(rows_to(Machine(((1, 1), (1, 1)), (1,)), 0), 1)
        # Few rows come to the stand 2, though a ring leads to it that no row comes to.
        self.assertEqual(rows_to(Machine(((2, 3), (1, 2), (3, 3), (3, 3)), (2,)), 2), 1)

    def test_stands_that_are_none(self):
        for machine in (letting_all(1), chain(3, 2), wheel(8, (0,))):
            for stand in NO_STANDS + (len(machine), len(machine) + 1):
                with self.subTest(stands=len(machine), stand=stand):
                    for asked in ((apart, stand, 0), (apart, 0, stand), (apart, stand, stand), (rows_to, stand)):
                        with self.assertRaises(BadStand):
                            asked[0](machine, *asked[1:])


class LeanTests(unittest.TestCase):
    def check_lean(self, machine):
        """Hold the answers against plain counts; the fewest stands, and those of a small machine."""
        found = lean(machine)
        self.assertIs(type(found), Machine)
        self.assertEqual(len(found), fewest(machine))
        self.assertIsNotNone(plain_count(machine, found))
        least = small(machine)
        lasting = [stand for stand in range(len(least)) if plain_count_to(least, stand) is None]
        of_kind = plain_kinds(least)
        self.assertEqual(fewest(machine), len(lasting) + len(set(of_kind) - {of_kind[stand] for stand in lasting}))
        return fewest(machine), len(least)

    def check_against_all(self, machine, most=2):
        """That no machine of fewer stands, at most so many, differs at few rows."""
        found = self.check_lean(machine)[0]
        for stands in range(1, min(found, most + 1)):
            for other in every_machine(stands, len(machine.steps[0])):
                self.assertIsNone(plain_count(machine, other), (machine.steps, machine.good, other.steps, other.good))
        return found

    def test_all_small_machines_against_all_of_one_or_two_stands(self):
        for most, letters, sizes in ((4, 1, {1, 2, 3, 4}), (2, 2, {1, 2}), (1, 3, {1})):
            self.assertEqual({self.check_against_all(machine) for stands in range(1, most + 1)
                              for machine in every_machine(stands, letters)}, sizes)

    def test_some_machines_against_all_of_one_or_two_stands(self):
        chance = Random(24)
        for letters in (2, 3):
            seen = {self.check_against_all(some_machine(chance, 2, letters)) for _ in range(6)}
            for stands in range(3, 6):
                for front in range(1, stands):
                    seen.add(self.check_against_all(some_near_pair(chance, stands, front, letters)[0]))
            self.assertLessEqual({1, 2}, seen)
            self.assertGreater(max(seen), 2)

    def test_machines_of_one_letter_against_all_of_three_stands(self):
        chance = Random(25)
        seen = {self.check_against_all(some_machine(chance, stands, 1), 3)
                for stands in range(4, 9) for _ in range(6)}
        self.assertIn(4, seen)

    def test_larger_machines(self):
        seen = {self.check_lean(machine) for machine in some_machines(Random(26), 2)}
        self.assertGreater(len([many for many, others in seen if many < others]), 10)
        self.assertGreater(len([many for many, others in seen if many == others]), 4)

    def test_machines_that_differ_at_few_rows_have_as_few_stands(self):
        chance = Random(27)
        for letters in range(1, 4):
            for stands in range(2, 9):
                for front in range(1, stands):
                    one, other = some_near_pair(chance, stands, front, letters)
                    if plain_count(one, other) is not None:
                        self.assertEqual(fewest(one), fewest(other))

    def test_one_stand_and_eight(self):
        for letters in range(1, 4):
            for machine in (letting_all(letters), letting_none(letters)):
                self.assertEqual(fewest(machine), 1)
                self.assertTrue(lean(machine) == machine)
            self.assertEqual(fewest(chain(8, letters)), 1)
            self.assertTrue(lean(chain(8, letters)) == letting_all(letters))
        for good, many in (((7,), 8), ((0, 4), 4), ((), 1), ((0, 1, 2), 8)):
            self.assertEqual(self.check_lean(wheel(8, good)), (many, many))

    def test_kinds_without_a_stand_that_endlessly_many_rows_come_to(self):
        for letters in (2, 3):
            self.assertEqual(self.check_lean(forked(letters)), (6, 8))
            self.check_against_all(forked(letters))

    def test_the_first_stand_may_go(self):
        machine = Machine(((1, 2), (1, 2), (2, 1)), (0, 2))
        self.assertEqual((kinds(machine), self.check_lean(machine)), ((0, 0, 1), (2, 3)))

    def test_stands_that_endlessly_many_rows_come_to_all_stay(self):
        # The stands 0 and 1 differ at the empty row alone, and endlessly many rows come to each.
        machine = Machine(((1, 2), (1, 2), (0, 2)), (1,))
        self.assertEqual((kinds(machine), self.check_lean(machine)), ((0, 0, 0), (3, 3)))
        self.check_against_all(machine)

    def test_stands_that_no_row_comes_to_count_for_nothing(self):
        self.assertEqual(self.check_lean(Machine(((0, 0), (2, 1), (1, 2)), (1,))), (1, 1))


class CallTests(unittest.TestCase):
    def test_nothing_is_modified_and_calls_repeat(self):
        machine = forked(3)
        for asked in (kinds, fewest):
            self.assertEqual(asked(machine), asked(machine))
        self.assertTrue(lean(machine) == lean(machine))
        self.assertEqual([apart(machine, 1, 2) for _ in range(3)], [1] * 3)
        self.assertEqual([rows_to(machine, 4) for _ in range(3)], [1] * 3)
        for stand in ([0], {0: 0}):
            before = type(stand)(stand)
            for asked in ((apart, stand, 0), (rows_to, stand)):
                with self.assertRaises(BadStand):
                    asked[0](machine, *asked[1:])
            self.assertEqual(stand, before)
        self.assertTrue(machine == forked(3))

    def test_kinds_of_values(self):
        machine = chain(3, 2)
        self.assertIs(type(kinds(machine)), tuple)
        for number in (*kinds(machine), apart(machine, 0, 1), apart(machine, 0, 0), rows_to(machine, 1),
                       fewest(machine)):
            self.assertIs(type(number), int)

    def test_all_are_defined_there(self):
        for name in ("apart", "kinds", "rows_to", "fewest", "lean"):
            self.assertEqual(getattr(near, name).__module__, "butfewrows.near")


if __name__ == "__main__":
    unittest.main()

import unittest
from itertools import product
from random import Random

from butfewrows import covers
from butfewrows.covers import cover, covering
from butfewrows.errors import BadNumber
from butfewrows.machines import Machine
from butfewrows.small import small

from tests.plain import (all_rows, chain, every_machine, letting_all, letting_none, plainly_differ, plainly_first,
                         some_machine, some_near_pair, wheel)

LENGTHS = range(41)
NO_LENGTHS = (-1, -10 ** 30, 10 ** 30, 41, 42, True, False, "0", "", None, (), (0,), [], [0], {}, {0: 0})


def right_up_to(machine, other):
    """The most letters for which two machines let by the same of all rows of at most so many, from -1 to 40."""
    first = plainly_first(machine, other)
    return 40 if first is None or first > 40 else first - 1


class CoverCase(unittest.TestCase):
    def check_right(self, machine, length):
        """That what covers a machine is right for all rows up to a length; the number of its stands."""
        found = covering(machine, length)
        self.assertIs(type(found), Machine)
        self.assertEqual(len(found.steps[0]), len(machine.steps[0]))
        self.assertGreaterEqual(right_up_to(machine, found), length)
        self.assertEqual(cover(machine, length), len(found))
        return len(found)

    def check_cover(self, machine, most=2):
        """Hold all lengths against all machines of at most so many stands; the numbers of stands."""
        sizes = [self.check_right(machine, length) for length in LENGTHS]
        self.assertEqual(sizes, sorted(sizes))
        for stands in range(1, most + 1):
            best = max(right_up_to(machine, other) for other in every_machine(stands, len(machine.steps[0])))
            self.assertEqual([size <= stands for size in sizes], [length <= best for length in LENGTHS],
                             (machine.steps, machine.good, stands))
        return sizes


class ExampleTests(unittest.TestCase):
    def test_example(self):
        turning = Machine(((1,), (2,), (0,)), (2,))
        self.assertEqual([cover(turning, 1), cover(turning, 2), cover(turning, 40), covering(turning, 1).good,
                          len(covering(turning, 2))], [1, 3, 3, (), 3])


class CoverTests(CoverCase):
    def test_all_small_machines_against_all_of_one_or_two_stands(self):
        for letters, most in ((1, 3), (2, 1), (3, 1)):
            for stands in range(1, most + 1):
                for machine in every_machine(stands, letters):
                    self.check_cover(machine)

    def test_some_machines_against_all_of_one_or_two_stands(self):
        chance = Random(51)
        seen = set()
        for letters, many in ((1, 4), (2, 2)):
            for stands in range(2, 9):
                for _ in range(many):
                    seen.update(self.check_cover(some_machine(chance, stands, letters)))
                    seen.update(self.check_cover(some_near_pair(chance, stands, (stands + 1) // 2, letters)[0]))
        self.assertLessEqual({1, 2, 3, 4, 5}, seen)
        for stands in (2, 4, 7):
            self.check_cover(some_machine(chance, stands, 3))

    def test_machines_of_one_letter_against_all_of_three_stands(self):
        chance = Random(52)
        for stands in range(3, 9):
            for _ in range(3):
                self.check_cover(some_machine(chance, stands, 1), 3)

    def test_rows_one_by_one(self):
        chance = Random(53)
        for letters, lengths in ((1, range(13)), (2, range(8)), (3, range(6))):
            for _ in range(6):
                machine = some_machine(chance, chance.randrange(1, 9), letters)
                for length in lengths:
                    found = covering(machine, length)
                    for row in all_rows(letters, length):
                        self.assertFalse(plainly_differ(machine, found, row))

    def test_as_many_rows_as_stands_are_told_apart(self):
        # Two rows lead to two stands if some ending that is short enough behind both tells them apart.
        chance = Random(54)
        for letters in (1, 2):
            for stands in range(2, 9):
                machine = some_machine(chance, stands, letters)
                for length in (0, 1, 2, 3, 5, 6):
                    self.check_told_apart(machine, letters, length, cover(machine, length))

    def check_told_apart(self, machine, letters, length, size):
        kept = []
        rows = all_rows(letters, length)
        for row in rows:
            if all(self.is_told_apart(machine, row, other, rows, length) for other in kept):
                kept.append(row)
        self.assertEqual(len(kept), size)

    def is_told_apart(self, machine, row, other, rows, length):
        good = set(machine.good)
        first, second = behind(machine, 0, row), behind(machine, 0, other)
        return any((behind(machine, first, end) in good) != (behind(machine, second, end) in good)
                   for end in rows if len(end) + max(len(row), len(other)) <= length)


def behind(machine, stand, row):
    for letter in row:
        stand = machine.steps[stand][letter]
    return stand


class EdgeTests(CoverCase):
    def test_length_0(self):
        chance = Random(55)
        for letters in range(1, 4):
            for stands in range(1, 9):
                machine = some_machine(chance, stands, letters)
                self.assertEqual(self.check_right(machine, 0), 1)
                self.assertEqual(covering(machine, 0).good, (0,) if 0 in machine.good else ())

    def test_length_40(self):
        for letters in range(1, 4):
            for machine in (letting_all(letters), letting_none(letters)):
                self.assertEqual(self.check_right(machine, 40), 1)
            self.assertEqual(self.check_right(chain(8, letters), 40), 8)
        for good, size in (((7,), 8), ((0, 4), 4), ((), 1), ((0, 1, 2), 8)):
            self.assertEqual(self.check_right(wheel(8, good), 40), size)

    def test_a_chain_takes_a_stand_for_each_letter(self):
        for letters in range(1, 4):
            for stands in range(2, 9):
                sizes = [self.check_right(chain(stands, letters), length) for length in LENGTHS]
                self.assertEqual(sizes, [1] * (stands - 1) + [stands] * (42 - stands))

    def test_a_wheel_goes_on_before_it_turns(self):
        for stands in range(2, 9):
            machine = wheel(stands, (stands - 1,))
            self.assertEqual([self.check_right(machine, length) for length in LENGTHS],
                             [1] * (stands - 1) + [stands] * (42 - stands))
            machine = wheel(stands, (0,))
            self.assertEqual([self.check_right(machine, length) for length in LENGTHS],
                             [1] + [2] * (stands - 1) + [stands] * (41 - stands))

    def test_stands_that_come_too_late_are_gone(self):
        # The stands behind the ring of two are come to by long rows alone.
        machine = Machine(((1, 1), (2, 2), (3, 3), (4, 4), (5, 5), (6, 6), (7, 7), (7, 7)), (0, 2, 4, 6))
        sizes = [self.check_right(machine, length) for length in LENGTHS]
        self.assertEqual(sizes, [1] + [2] * 7 + [8] * 33)

    def test_the_first_of_two_alike_stands_stays_though_it_has_a_higher_number(self):
        # The rows to the stand 2 are shorter than those to the stand 1, by which no stand may be judged.
        machine = Machine(((2, 4), (3, 4), (1, 4), (4, 3), (4, 4)), (1, 3))
        self.check_cover(machine)

    def test_stands_that_no_row_comes_to_count_for_nothing(self):
        machine = Machine(((0, 0), (2, 1), (1, 2)), (1,))
        self.assertEqual({self.check_right(machine, length) for length in LENGTHS}, {1})

    def test_never_more_stands_than_for_all_rows(self):
        chance = Random(56)
        for letters in range(1, 4):
            for stands in range(1, 9):
                machine = some_machine(chance, stands, letters)
                self.assertLessEqual(cover(machine, 40), len(small(machine)))


class CallTests(unittest.TestCase):
    def test_lengths_that_are_none(self):
        for machine, length in product((letting_all(1), chain(8, 3)), NO_LENGTHS):
            with self.subTest(length=length):
                for asked in (cover, covering):
                    with self.assertRaises(BadNumber):
                        asked(machine, length)

    def test_nothing_is_modified_and_calls_repeat(self):
        machine = chain(5, 2)
        for length in (0, 3, 4, 40):
            self.assertEqual(cover(machine, length), cover(machine, length))
            self.assertTrue(covering(machine, length) == covering(machine, length))
        for length in ([1], {1: 1}):
            before = type(length)(length)
            with self.assertRaises(BadNumber):
                cover(machine, length)
            self.assertEqual(length, before)
        self.assertTrue(machine == chain(5, 2))

    def test_kinds_of_values(self):
        self.assertIs(type(cover(chain(3, 2), 2)), int)
        self.assertIs(type(covering(chain(3, 2), 2)), Machine)

    def test_all_are_defined_there(self):
        for name in ("cover", "covering"):
            self.assertEqual(getattr(covers, name).__module__, "butfewrows.covers")


if __name__ == "__main__":
    unittest.main()

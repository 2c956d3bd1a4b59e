import unittest
from itertools import product
from random import Random

from butfewrows import mending
from butfewrows.differing import kth_unlike, word
from butfewrows.errors import BadMachines, BadRows, NotComparable, TooMany
from butfewrows.machines import Machine
from butfewrows.mending import lots, mended, unlike_rows
from butfewrows.small import small

from tests.plain import (all_rows, chain, every_machine, letting_all, letting_none, plain_count, plainly_lets,
                         plainly_unlike, some_machine, some_near_pair, wheel)

NO_LISTS = (None, True, False, 0, 1, -1, 10 ** 30, "", "0", "00", {}, {0: (0,)}, {(0,): (0,)})
NO_LETTERS = (-1, -10 ** 30, 10 ** 30, True, False, "0", "", None, (), (0,), [], [0], {}, {0: 0})


def plain_size(machine, rows):
    """How many stands a machine of at most three stands needs when it is mended at rows of at most two letters."""
    letters = len(machine.steps[0])
    # Behind three letters it goes on as the machine does: two more lead to any stand, and tell any two apart.
    return len({tuple(plainly_lets(machine, start + end) != (start + end in rows) for end in all_rows(letters, 5))
                for start in all_rows(letters, 5)})


def some_rows(chance, letters, most, many):
    return chance.sample(all_rows(letters, most), many)


class ExampleTests(unittest.TestCase):
    def test_example(self):
        every, none = Machine(((0, 0),), (0,)), Machine(((0, 0),), ())
        found = mended(every, [(1,), ()])
        self.assertEqual([found.steps, found.good, unlike_rows(every, found), unlike_rows(every, none),
                          lots([every, none, found])],
                         [((1, 2), (1, 1), (1, 1)), (1,), [(), (1,)], None, [(0, 2), (1,)]])


class MendedTests(unittest.TestCase):
    def check_mended(self, machine, rows):
        """That a mended machine differs just at the rows, and is as small makes it; None for too many stands."""
        try:
            found = mended(machine, rows)
        except TooMany:
            return None
        self.assertIs(type(found), Machine)
        self.assertEqual(plain_count(machine, found), len(rows))
        for row in rows:
            self.assertNotEqual(plainly_lets(machine, row), plainly_lets(found, row))
        self.assertEqual(unlike_rows(machine, found), sorted(rows, key=lambda row: (len(row), row)))
        self.assertTrue(small(found) == found)
        self.assertTrue(mended(machine, tuple(rows)) == found)
        # Mended again at the same rows it is the machine as it was.
        self.assertTrue(mended(found, rows[::-1]) == small(machine))
        return found

    def test_all_small_machines_at_single_rows_and_pairs(self):
        for letters, stands in ((1, 1), (1, 2), (2, 1), (3, 1)):
            rows = all_rows(letters, 2)
            for machine in every_machine(stands, letters):
                for one in rows:
                    self.assertIsNotNone(self.check_mended(machine, [one]))
                    for other in rows:
                        if one != other:
                            self.assertIsNotNone(self.check_mended(machine, [one, other]))

    def test_sizes_against_plain_ones(self):
        chance = Random(61)
        seen = set()
        for letters, stands in ((1, 2), (2, 1), (2, 2), (2, 3)):
            for many in (1, 2, 3):
                for _ in range(6):
                    machine, rows = some_machine(chance, stands, letters), some_rows(chance, letters, 2, many)
                    found, size = self.check_mended(machine, rows), plain_size(machine, rows)
                    seen.add(size)
                    self.assertEqual(len(found) if found else None, size if size <= 8 else None)
        self.assertLessEqual({2, 3, 4, 5, 6}, seen)

    def test_small_is_the_only_one_against_all_of_two_stands(self):
        chance = Random(62)
        for letters in (1, 2):
            for machine in every_machine(2, letters):
                rows = some_rows(chance, letters, 1, chance.randrange(1, letters + 1))
                found = self.check_mended(machine, rows)
                for stands in range(1, min(len(found), 3)):
                    for other in every_machine(stands, letters):
                        self.assertNotEqual(plain_count(found, other), 0)

    def test_some_machines_at_many_rows(self):
        chance = Random(63)
        seen = []
        for letters, most in ((1, 6), (2, 2), (2, 6), (3, 1), (3, 3)):
            for stands in range(1, 9):
                for many in range(1, min(10, len(all_rows(letters, most))) + 1):
                    found = self.check_mended(some_machine(chance, stands, letters),
                                              some_rows(chance, letters, most, many))
                    seen.append(found and len(found))
        self.assertLessEqual({None, 2, 3, 4, 5, 6, 7, 8}, set(seen))

    def test_no_letters_and_six_letters(self):
        for letters in range(1, 4):
            for machine in (letting_all(letters), letting_none(letters)):
                found = self.check_mended(machine, [()])
                good = (1,) if machine.good else (0,)
                self.assertTrue(found == Machine(((1,) * letters, (1,) * letters), good))
                self.assertEqual(len(self.check_mended(machine, [(letters - 1,) * 6])), 8)
        found = self.check_mended(letting_none(2), [(0, 1, 0, 1, 0, 1)])
        self.assertEqual((found.steps[0], found.good), ((1, 2), (7,)))

    def test_ten_rows(self):
        rows = [(0,) * length for length in range(7)]
        self.assertTrue(self.check_mended(letting_none(1), rows) == Machine(
            tuple((min(stand + 1, 7),) for stand in range(8)), tuple(range(7))))
        rows = all_rows(2, 2) + [(1, 1, 1), (0, 0, 0), (0, 1, 1)]
        self.assertEqual(len(rows), 10)
        self.assertEqual(len(self.check_mended(letting_all(2), rows)), 7)
        self.assertEqual(len(self.check_mended(letting_none(3), all_rows(3, 1) + list(product(range(2), repeat=2)))), 4)

    def test_just_eight_stands_and_too_many(self):
        self.assertEqual(len(self.check_mended(wheel(7, (0,)), [()])), 8)
        self.assertEqual(len(self.check_mended(wheel(3, (0,)), [(0,) * 4])), 8)
        self.assertEqual(len(self.check_mended(chain(8, 2), all_rows(2, 2))), 8)
        for machine, row in ((wheel(8, (0,)), ()), (wheel(3, (0,)), (0,) * 5), (wheel(7, (0,)), (0,))):
            with self.assertRaises(TooMany):
                mended(machine, [row])
        with self.assertRaises(TooMany):
            mended(letting_none(2), [(0,) * 6, (1, 0, 1)])
        # The rows behind 1 go on as those behind four letters 0.
        self.assertEqual(len(self.check_mended(letting_none(2), [(0,) * 6, (1, 0, 0)])), 8)
        # Stands that are not needed do not count.
        self.assertEqual(len(self.check_mended(Machine(chain(8, 2).steps, tuple(range(8))), [(0,) * 6])), 8)
        self.assertEqual(len(self.check_mended(Machine(chain(8, 2).steps, ()), [(1,)])), 3)

    def test_mending_makes_a_machine_smaller(self):
        for letters in range(1, 4):
            machine = chain(3, letters)
            self.assertTrue(self.check_mended(machine, all_rows(letters, 1)) == letting_all(letters))


class BadRowsTests(unittest.TestCase):
    def bad_rows(self, machine, rows, index):
        with self.assertRaises(BadRows) as caught:
            mended(machine, rows)
        self.assertEqual(caught.exception.index, index)
        self.assertIs(type(caught.exception.index), type(index))

    def test_values_that_are_no_lists(self):
        for rows in NO_LISTS + ([], (), [(0,)] * 11, [None] * 11, tuple(all_rows(2, 3)[:11])):
            with self.subTest(rows=rows):
                self.bad_rows(letting_all(2), rows, None)
                # A machine that would need too many stands, too.
                self.bad_rows(wheel(8, (0,)), rows, None)

    def test_things_that_are_no_rows(self):
        machine = wheel(8, (0,))
        for thing in (*NO_LISTS, [], [0], (1,), (0, 1), (0,) * 7, (0,) * 41, (-1,), *((bad,) for bad in NO_LETTERS),
                      *((0, bad, 0) for bad in NO_LETTERS)):
            for rows, index in (([thing], 0), ([thing, thing, ()], 0), ([(), thing], 1), (((0, 0), (), thing, 7), 2),
                                ([(0,) * length for length in range(7)] + [thing] * 3, 7)):
                with self.subTest(rows=rows):
                    self.bad_rows(machine, rows, index)

    def test_letters_of_other_machines(self):
        for letters in range(1, 4):
            self.assertIsInstance(mended(letting_all(letters), [(letters - 1,)]), Machine)
            self.bad_rows(letting_all(letters), [(0,), (0, letters)], 1)

    def test_six_letters_and_seven(self):
        self.assertIsInstance(mended(letting_all(2), [(0,) * 6]), Machine)
        self.bad_rows(letting_all(2), [(0,) * 7], 0)
        self.bad_rows(letting_all(2), [(0,) * 6, (1,) * 7], 1)

    def test_rows_that_were_before(self):
        machine = letting_all(2)
        self.bad_rows(machine, [(), ()], 1)
        self.bad_rows(machine, ((0, 1), (1, 0), (0, 1), (1, 0)), 2)
        self.bad_rows(machine, [(0,), (1,), (1,), (9,)], 2)
        self.bad_rows(machine, [(0,), (1,), (9,), (0,)], 2)
        self.bad_rows(machine, all_rows(2, 2) + [(1, 1)], 7)

    def test_ten_rows_and_eleven(self):
        rows = all_rows(2, 3)
        self.assertEqual(len(unlike_rows(letting_all(2), mended(letting_all(2), rows[:10]))), 10)
        self.bad_rows(letting_all(2), rows[:11], None)
        self.bad_rows(letting_all(2), rows[:9] + rows[:1], 9)
        self.bad_rows(letting_all(2), rows[:9] + rows[:2], None)


class UnlikeRowsTests(unittest.TestCase):
    def test_against_plain_counts(self):
        chance = Random(64)
        seen = set()
        for letters in range(1, 4):
            for stands in range(2, 9):
                for front in range(1, min(stands, 6)):
                    one, other = some_near_pair(chance, stands, front, letters)
                    found = unlike_rows(one, other)
                    self.assertEqual(unlike_rows(other, one), found)
                    many = plain_count(one, other)
                    seen.add(many and min(many, 9))
                    if many is None:
                        self.assertIsNone(found)
                        self.assertEqual(word(one, other), "many")
                    else:
                        self.assertIs(type(found), list)
                        self.assertEqual(len(found), many)
                        self.assertEqual(found, plainly_unlike(one, other, max(map(len, found), default=0)))
                        self.assertEqual(found, [kth_unlike(one, other, k) for k in range(many)])
        self.assertLessEqual({None, 0, 1, 2, 3, 9}, seen)

    def test_all_small_machines(self):
        machines = [machine for stands in (1, 2) for machine in every_machine(stands, 1)]
        for one, other in product(machines, repeat=2):
            if plain_count(one, other) is None:
                self.assertIsNone(unlike_rows(one, other))
            else:
                self.assertEqual(unlike_rows(one, other), plainly_unlike(one, other, 8))

    def test_no_rows(self):
        for letters in range(1, 4):
            self.assertEqual(unlike_rows(letting_all(letters), letting_all(letters)), [])
            self.assertEqual(unlike_rows(chain(8, letters), chain(8, letters)), [])
            self.assertEqual(unlike_rows(letting_none(letters), letting_all(letters)), None)

    def test_chains(self):
        for letters in range(1, 4):
            for stands in range(2, 8):
                rows = all_rows(letters, stands - 2)
                self.assertEqual(unlike_rows(letting_all(letters), chain(stands, letters)), rows)

    def test_a_thousand_rows_and_more(self):
        # Of the rows of at most six letters, those of none, of three, of five and of six.
        thousand = Machine(chain(8, 3).steps, (0, 3, 5, 6))
        none, empty = letting_none(3), Machine(((1, 1, 1), (1, 1, 1)), (0,))
        single = Machine(((1, 1, 2), (1, 1, 1), (1, 1, 1)), (2,))
        for other, many in ((none, 1000), (empty, 999), (single, 1001), (letting_all(3), None)):
            self.assertEqual(plain_count(thousand, other), many)
            for pair in ((thousand, other), (other, thousand)):
                if many == 1001:
                    with self.assertRaises(TooMany):
                        unlike_rows(*pair)
                else:
                    self.assertEqual(unlike_rows(*pair), many and plainly_unlike(thousand, other, 6))
        for pair in ((chain(8, 3), letting_all(3)), (letting_all(3), chain(8, 3))):
            self.assertEqual(plain_count(*pair), 1093)
            with self.assertRaises(TooMany):
                unlike_rows(*pair)

    def test_not_comparable(self):
        machines = [letting_all(1), letting_none(2), chain(8, 3)]
        for one, other in product(machines, repeat=2):
            if one is not other:
                with self.assertRaises(NotComparable):
                    unlike_rows(one, other)


class LotsTests(unittest.TestCase):
    def check_lots(self, machines):
        found = lots(machines)
        self.assertIs(type(found), list)
        self.assertEqual(found, sorted(found))
        self.assertEqual(sorted(index for lot in found for index in lot), list(range(len(machines))))
        for lot in found:
            self.assertIs(type(lot), tuple)
            self.assertEqual(lot, tuple(sorted(lot)))
        for one, other in product(range(len(machines)), repeat=2):
            together = any(one in lot and other in lot for lot in found)
            self.assertEqual(together, plain_count(machines[one], machines[other]) is not None)
        self.assertEqual(lots(tuple(machines)), found)
        return found

    def test_some_machines(self):
        chance = Random(65)
        seen = set()
        for letters in range(1, 4):
            for many in range(1, 9):
                for _ in range(4):
                    pairs = [some_near_pair(chance, chance.randrange(2, 6), 1, letters) for _ in range(3)]
                    machines = [machine for pair in pairs for machine in pair] + [letting_all(letters),
                                                                                  letting_none(letters)]
                    chance.shuffle(machines)
                    seen.add(len(self.check_lots(machines[:many])))
        self.assertLessEqual({1, 2, 3, 4}, seen)

    def test_one_machine_and_eight(self):
        for letters in range(1, 4):
            self.assertEqual(self.check_lots([letting_none(letters)]), [(0,)])
            chains = [chain(stands, letters) for stands in range(1, 9)]
            self.assertEqual(self.check_lots(chains), [(0, 1, 2, 3, 4, 5, 6, 7)])
            self.assertEqual(self.check_lots([letting_all(letters), letting_none(letters)] * 4),
                             [(0, 2, 4, 6), (1, 3, 5, 7)])
        self.assertEqual(self.check_lots([wheel(8, (at,)) for at in range(8)]), [(at,) for at in range(8)])
        self.assertEqual(self.check_lots([wheel(8, (0, 4)), wheel(8, (1, 5)), wheel(4, (0,)), wheel(4, (1,)),
                                          wheel(8, (2,)), wheel(4, (1,))]), [(0, 2), (1, 3, 5), (4,)])

    def test_the_same_machine_twice(self):
        machine = chain(3, 2)
        self.assertEqual(self.check_lots([machine, machine]), [(0, 1)])

    def bad_machines(self, machines, index):
        with self.assertRaises(BadMachines) as caught:
            lots(machines)
        self.assertEqual(caught.exception.index, index)
        self.assertIs(type(caught.exception.index), type(index))

    def test_values_that_are_no_lists(self):
        machine = letting_all(1)
        for machines in NO_LISTS + ([], (), [machine] * 9, (machine,) * 9, [None] * 9, {0: machine}):
            self.bad_machines(machines, None)

    def test_things_that_are_no_machines(self):
        one, other = letting_all(1), chain(8, 2)
        for thing in (*NO_LISTS, [], (), ((0,),), (((0,),), (0,)), [one], (one,), {0: one}):
            for machines, index in (([thing], 0), ([one, thing], 1), ((thing, one), 0), ([one, one, thing, thing], 2),
                                    ([one] * 7 + [thing], 7), ([one, other, thing], 2), ([other, one, thing, one], 2)):
                self.bad_machines(machines, index)

    def test_not_comparable(self):
        for machines in product((letting_all(1), chain(8, 2), wheel(3, (1,)), chain(2, 3)), repeat=3):
            if len({len(machine.steps[0]) for machine in machines}) > 1:
                with self.assertRaises(NotComparable):
                    lots(machines)
                with self.assertRaises(NotComparable):
                    lots(list(machines))
            else:
                self.check_lots(list(machines))


class CallTests(unittest.TestCase):
    def test_nothing_is_modified_and_calls_repeat(self):
        machine, other, rows = chain(4, 2), letting_all(2), [(1, 0), (), (0,)]
        self.assertTrue(mended(machine, rows) == mended(machine, rows))
        self.assertEqual(rows, [(1, 0), (), (0,)])
        found = unlike_rows(machine, other)
        found.clear()
        self.assertEqual(unlike_rows(machine, other), all_rows(2, 2))
        machines = [machine, other, letting_none(2)]
        found = lots(machines)
        found.clear()
        self.assertEqual(lots(machines), [(0, 1), (2,)])
        self.assertEqual(len(machines), 3)
        self.assertTrue(machine == chain(4, 2) and other == letting_all(2) and machines[2] == letting_none(2))
        for bad in ([[0]], [(0,), [0]], [(0,), (0,)], [{0: 0}]):
            before = [type(row)(row) for row in bad]
            with self.assertRaises(BadRows):
                mended(machine, bad)
            self.assertEqual(bad, before)

    def test_all_are_defined_there(self):
        for name in ("mended", "unlike_rows", "lots"):
            self.assertEqual(getattr(mending, name).__module__, "butfewrows.mending")


if __name__ == "__main__":
    unittest.main()

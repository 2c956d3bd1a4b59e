import unittest
from itertools import product
from random import Random

from butfewrows import growing
from butfewrows.differing import word
from butfewrows.errors import NotComparable
from butfewrows.growing import growth, twins
from butfewrows.machines import Machine

from tests.plain import (all_rows, chain, every_machine, letting_all, letting_none, plain_count, plainly_differ,
                         plainly_further, plainly_unlike, some_machine, some_near_pair, wheel)

FAR = 2048


def plain_sums(one, other, lengths):
    """The numbers of the rows of at most so many letters at which two machines differ, for ascending lengths."""
    counts, total, found = {(0, 0): 1}, 0, []
    for length in range(lengths[-1] + 1):
        total += sum(many for (first, second), many in counts.items() if (first in one.good) != (second in other.good))
        if length in lengths:
            found.append(total)
        counts = plainly_further(counts, lambda pair: list(zip(one.steps[pair[0]], other.steps[pair[1]])))
    return found


def some_onward(chance, stands, letters):
    """A machine by chance the stands of which are mostly left for later ones, or not at all."""
    steps = tuple(tuple(stand if chance.random() < 0.3 else chance.randrange(stand, stands) for _ in range(letters))
                  for stand in range(stands))
    return Machine(steps, tuple(stand for stand in range(stands - 1) if chance.random() < 0.5))


def counting(stands, letters):
    """The machine of two or three letters for all rows of letters 0 and 1 with two letters 1 less than stands."""
    steps = tuple((stand, min(stand + 1, stands - 1), stands - 1)[:letters] for stand in range(stands))
    return Machine(steps, (stands - 2,))


def linked_rings(sizes):
    """The machine of two letters with rings of these sizes one behind the other, and a stand that nothing leaves."""
    stands = sum(sizes) + 1
    steps, start = [], 0
    for size in sizes:
        steps += [(start + (at + 1) % size, start + size if at == 0 else stands - 1) for at in range(size)]
        start += size
    return Machine(tuple(steps) + ((stands - 1, stands - 1),), (stands - 1 - sizes[-1],))


class GrowingCase(unittest.TestCase):
    def check_twins(self, one, other, most=5):
        found = twins(one, other)
        self.assertIs(type(found), tuple)
        self.assertEqual(len(found), 4)
        for row in found:
            self.assertIs(type(row), tuple)
            self.assertTrue(all(type(letter) is int and 0 <= letter < len(one.steps[0]) for letter in row))
        head, loop, second, tail = found
        self.assertNotEqual(loop[:len(second)], second)
        self.assertNotEqual(second[:len(loop)], loop)
        for times in range(most + 1):
            for order in product((loop, second), repeat=times):
                self.assertTrue(plainly_differ(one, other, head + sum(order, ()) + tail), (found, order))
        chance = Random(40)
        for times in (10, 25, 60):
            order = [chance.choice((loop, second)) for _ in range(times)]
            self.assertTrue(plainly_differ(one, other, head + sum(order, ()) + tail), (found, order))

    def check_growth(self, one, other):
        """Hold the answers against counts of the rows of at most FAR letters and of at most twice as many."""
        found = growth(one, other)
        self.assertEqual(growth(other, one), found)
        short, far, twice = plain_sums(one, other, (FAR // 2, FAR, 2 * FAR))
        self.assertEqual(found == 0, plain_count(one, other) is not None)
        if found is None:
            # Beyond all powers: twice as many letters square the number of rows, or nearly so.
            self.assertGreater(twice * short, far ** 2 * 2 ** 20)
            self.check_twins(one, other)
            self.check_twins(other, one, 2)
            return None
        self.assertIs(type(found), int)
        self.assertIsNone(twins(one, other))
        self.assertIsNone(twins(other, one))
        # Twice as many letters make 2 to the power of growth as many rows, or nearly so.
        self.assertLessEqual(5 * twice, 7 * 2 ** found * far)
        self.assertLessEqual(5 * 2 ** found * far, 7 * twice)
        return found


class ExampleTests(unittest.TestCase):
    def test_example(self):
        none = Machine(((0, 0),), ())
        self.assertEqual([growth(none, Machine(((0, 0),), (0,))), growth(none, none),
                          growth(none, Machine(((0, 1), (2, 1), (2, 2)), (1,)))], [None, 0, 2])
        self.assertEqual([twins(none, none), twins(none, Machine(((0, 0),), (0,))) is None], [None, False])


class GrowthTests(GrowingCase):
    def test_all_small_machines(self):
        for letters, all_of in ((1, (1, 2)), (2, (1,)), (3, (1,))):
            machines = [machine for stands in all_of for machine in every_machine(stands, letters)]
            for one, other in product(machines, repeat=2):
                self.check_growth(one, other)

    def test_machines_of_two_stands(self):
        chance = Random(41)
        machines = every_machine(2, 2)
        seen = [self.check_growth(machine, chance.choice((letting_all(2), letting_none(2)))) for machine in machines]
        seen += [self.check_growth(*chance.sample(machines, 2)) for _ in range(60)]
        self.assertLessEqual({None, 0, 1}, set(seen))

    def test_machines_that_lead_onward(self):
        chance = Random(42)
        seen = []
        for letters in (2, 3):
            for stands in range(3, 9):
                for _ in range(8):
                    other = chance.choice((letting_none(letters), some_onward(chance, 3, letters)))
                    seen.append(self.check_growth(some_onward(chance, stands, letters), other))
        for power in (None, 0, 1, 2):
            self.assertGreater(seen.count(power), 3, power)

    def test_machines_of_one_letter_never_go_beyond_one(self):
        chance = Random(43)
        seen = set()
        for stands in range(1, 9):
            for _ in range(5):
                one, other = some_machine(chance, stands, 1), some_machine(chance, chance.randrange(1, 9), 1)
                seen.add(self.check_growth(one, other))
        self.assertEqual(seen, {0, 1})

    def test_machines_that_go_on_alike(self):
        chance = Random(44)
        for letters in (2, 3):
            for stands in range(2, 9):
                for front in range(1, stands):
                    one, other = some_near_pair(chance, stands, front, letters)
                    self.assertEqual(growth(one, other) == 0, plain_count(one, other) is not None)
                    self.assertEqual(growth(one, other) is None, twins(one, other) is not None)

    def test_powers(self):
        for letters in (2, 3):
            for stands in range(2, 9):
                machine = counting(stands, letters)
                self.assertEqual(growth(machine, letting_none(letters)), stands - 1)
                self.assertEqual(growth(letting_none(letters), machine), stands - 1)
                self.assertEqual(growth(machine, machine), 0)
                self.assertIsNone(twins(machine, letting_none(letters)))
            self.check_growth(counting(4, letters), letting_none(letters))
        # The same rows but for those with a letter 1 more: one ring more is of no account below the highest power.
        self.assertEqual(growth(counting(8, 2), counting(4, 2)), 7)
        self.assertEqual(growth(counting(7, 3), counting(8, 3)), 7)

    def test_rings_of_some_letters(self):
        for sizes in ((1,), (7,), (2, 5), (3, 3), (1, 2, 3), (2, 2, 2), (1, 1, 1, 4), (1, 2, 1, 2, 1)):
            self.assertEqual(growth(linked_rings(sizes), letting_none(2)), len(sizes), sizes)
        for sizes in ((7,), (2, 5), (1, 2, 3), (2, 2, 2)):
            self.check_growth(linked_rings(sizes), letting_none(2))
        self.assertEqual(self.check_growth(wheel(8, (0,)), wheel(7, (0,))), 1)

    def test_rings_of_which_no_row_goes_round_two_count_once(self):
        # From the first stand on, one ring or the other, and never both.
        self.assertEqual(self.check_growth(Machine(((1, 2), (1, 3), (3, 2), (3, 3)), (1, 2)), letting_none(2)), 1)
        # One more ring before both.
        machine = Machine(((0, 1, 2), (1, 3, 3), (3, 2, 3), (3, 3, 3)), (1, 2))
        self.assertEqual(self.check_growth(machine, letting_none(3)), 2)

    def test_rings_that_tell_nothing_are_of_no_account(self):
        # No differing row leaves the last ring, and none comes to the ring of the stand that is led to by none.
        self.assertEqual(growth(Machine(((0, 1), (2, 2), (2, 2)), (1,)), letting_none(2)), 1)
        self.assertEqual(growth(Machine(((1, 1), (1, 1), (2, 2)), (0, 2)), letting_none(2)), 0)
        self.assertEqual(growth(Machine(((0, 1), (1, 1)), (1,)), Machine(((0, 1), (1, 1)), (1,))), 0)

    def test_rings_in_one_another_double(self):
        # Two letters along one ring, and two rings at one stand.
        for machine in (Machine(((1, 1), (0, 0)), (0,)), Machine(((1, 2), (0, 0), (1, 1)), (2,)),
                        Machine(((1, 3), (2, 3), (0, 1), (3, 3)), (2,)), Machine(((0, 1), (2, 1), (2, 2)), (2,))):
            self.assertIsNone(growth(machine, letting_none(2)))
            self.check_twins(machine, letting_none(2))
            self.check_twins(letting_none(2), machine)
        # Just two long loops at the farthest stand of eight: rows double slowly.
        slow = Machine(((1, 7), (2, 7), (3, 7), (4, 7), (5, 7), (6, 7), (0, 0), (7, 7)), (3,))
        self.assertIsNone(self.check_growth(slow, letting_none(2)))

    def test_few_rows(self):
        for letters in range(1, 4):
            for stands in range(1, 9):
                self.assertEqual(growth(chain(stands, letters), letting_all(letters)), 0)
                self.assertIsNone(twins(chain(stands, letters), letting_all(letters)))
                self.assertEqual(growth(chain(stands, letters), chain(stands, letters)), 0)

    def test_at_first_rows_against_all(self):
        chance = Random(45)
        for letters, most in ((1, 12), (2, 8), (3, 5)):
            for _ in range(10):
                one, other = some_onward(chance, 4, letters), some_machine(chance, 3, letters)
                self.assertEqual(plain_sums(one, other, (most,)), [len(plainly_unlike(one, other, most))])
                self.check_growth(one, other)


class TwinsTests(GrowingCase):
    def test_just_where_growth_is_none(self):
        chance = Random(46)
        many = 0
        for letters in range(1, 4):
            for stands, others in product(range(1, 9), repeat=2):
                one, other = some_machine(chance, stands, letters), some_machine(chance, others, letters)
                if growth(one, other) is None:
                    many += 1
                    self.assertEqual(word(one, other), "many")
                    self.check_twins(one, other, 3)
                else:
                    self.assertIsNone(twins(one, other))
        self.assertGreater(many, 60)

    def test_all_machines_of_two_stands(self):
        for machine in every_machine(2, 2):
            for other in (letting_all(2), letting_none(2)):
                self.assertEqual(growth(machine, other) is None, twins(machine, other) is not None)
                if twins(machine, other) is not None:
                    self.check_twins(machine, other, 4)

    def test_pairs_of_large_machines(self):
        one = Machine(tuple(((stand + 1) % 8, stand) for stand in range(8)), (0,))
        other = Machine(tuple((stand, (stand + 1) % 7) for stand in range(7)), (3,))
        self.assertIsNone(growth(one, other))
        self.check_twins(one, other)


class CallTests(unittest.TestCase):
    def test_not_comparable(self):
        machines = [letting_all(1), letting_none(2), chain(8, 3)]
        for one, other in product(machines, repeat=2):
            if one is not other:
                for asked in (growth, twins):
                    with self.assertRaises(NotComparable):
                        asked(one, other)

    def test_nothing_is_modified_and_calls_repeat(self):
        one, other = counting(5, 2), chain(4, 2)
        for _ in range(2):
            self.assertIsNone(growth(one, other))
            self.assertEqual(growth(one, letting_none(2)), 4)
        self.assertEqual(twins(one, other), twins(one, other))
        self.assertTrue(one == counting(5, 2) and other == chain(4, 2))

    def test_rows_of_the_tests_themselves(self):
        self.assertEqual(plain_sums(letting_all(2), letting_none(2), (0, 1, 5)), [1, 3, len(all_rows(2, 5))])

    def test_all_are_defined_there(self):
        for name in ("growth", "twins"):
            self.assertEqual(getattr(growing, name).__module__, "butfewrows.growing")


if __name__ == "__main__":
    unittest.main()

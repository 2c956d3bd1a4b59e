import unittest
from collections import Counter
from itertools import product
from random import Random

from butfewrows import wrong
from butfewrows.machines import Machine
from butfewrows.near import fewest
from butfewrows.small import small
from butfewrows.wrong import best_lean, least_wrong

from tests.plain import (all_rows, chain, every_machine, letting_all, letting_none, plain_count, plain_count_to,
                         plain_kinds, plainly_differ, some_good, some_machine, some_near_pair, wheel)


def all_choices(machine):
    """All machines that go on as a small one does behind some of its stands, and behind the others in any way.

    The stands that endlessly many rows come to stay as they are, and one of each kind that has no such stand:
    that one may be good or not, and lead to any stand that stays, of the kind to which it led.
    """
    stands, letters = range(len(machine)), range(len(machine.steps[0]))
    numbers = plain_kinds(machine)
    lasting = [stand for stand in stands if plain_count_to(machine, stand) is None]
    loose = [numbers.index(kind) for kind in sorted(set(numbers) - {numbers[stand] for stand in lasting})]
    order = lasting + loose
    of_kind = {kind: [order.index(stand) for stand in order if numbers[stand] == kind] for kind in numbers}
    kept = tuple(tuple(order.index(goal) for goal in machine.steps[stand]) for stand in lasting)
    good = tuple(order.index(stand) for stand in lasting if stand in machine.good)
    goals = [of_kind[numbers[machine.steps[stand][letter]]] for stand in loose for letter in letters]
    for start in of_kind[numbers[0]]:
        for chosen in product(*goals):
            free = tuple(chosen[at:at + len(letters)] for at in range(0, len(chosen), len(letters)))
            for bits in product((False, True), repeat=len(loose)):
                more = tuple(len(lasting) + at for at, bit in enumerate(bits) if bit)
                yield begun_at(Machine(kept + free, good + more), start)


def begun_at(machine, start):
    """A machine that begins in another stand: that one and the stand 0 change their places."""
    places = {0: start, start: 0}
    steps = [tuple(places.get(goal, goal) for goal in leads) for leads in machine.steps]
    steps[0], steps[start] = steps[start], steps[0]
    return Machine(tuple(steps), tuple(sorted(places.get(stand, stand) for stand in machine.good)))


def some_forked(chance, front, back):
    """A machine by chance of two letters that leads onward, and goes on in the end as another one does."""
    stands = front + len(back)
    steps = [tuple(chance.randrange(stand + 1, stands) for _ in range(2)) for stand in range(front)]
    steps += [tuple(front + goal for goal in leads) for leads in back]
    return Machine(tuple(steps), some_good(chance, range(stands)))


# Both letters lead to stands that differ at one row; they lead on to the last two, all rows and none.
FORKED = Machine(((1, 2), (3, 4), (3, 4), (3, 3), (4, 4)), (1, 3))
# The last two stands differ at the empty row alone, and endlessly many rows come to each.
AT_END = ((0, 1), (0, 1))
SINKS = ((0, 0), (1, 1))
THREE = ((0, 1), (0, 1), (2, 2))


class WrongCase(unittest.TestCase):
    def check_wrong(self, machine):
        """That the answers agree; the number of rows."""
        found, many = best_lean(machine), least_wrong(machine)
        self.assertIs(type(found), Machine)
        self.assertIs(type(many), int)
        self.assertEqual(len(found), fewest(machine))
        self.assertEqual(plain_count(machine, found), many)
        return many

    def check_against_all(self, machine):
        """Hold a machine of which the fewest stands are one or two against all of as many stands."""
        many = self.check_wrong(machine)
        counts = [plain_count(machine, other) for other in every_machine(fewest(machine), len(machine.steps[0]))]
        self.assertEqual(min(count for count in counts if count is not None), many, (machine.steps, machine.good))
        return many

    def check_against_choices(self, machine, most=300):
        """Hold a machine against all that can be chosen, if that are not too many; the fewest rows and the most."""
        many = self.check_wrong(machine)
        counts = []
        for other in all_choices(small(machine)):
            counts.append(plain_count(machine, other))
            if len(counts) > most:
                return many, None
        self.assertEqual(min(counts), many, (machine.steps, machine.good))
        return many, max(counts)


class ExampleTests(unittest.TestCase):
    def test_example(self):
        late = Machine(((1, 1), (2, 2), (2, 2)), (2,))
        self.assertEqual([least_wrong(late), best_lean(late).steps, best_lean(late).good,
                          least_wrong(Machine(((1,), (2,), (1,)), (1,)))], [3, ((0, 0),), (0,), 0])


class AgainstAllTests(WrongCase):
    def test_all_small_machines(self):
        for most, letters in ((3, 1), (2, 2), (1, 3)):
            for stands in range(1, most + 1):
                for machine in every_machine(stands, letters):
                    if fewest(machine) <= 3:
                        self.check_against_all(machine)

    def test_some_machines(self):
        chance = Random(71)
        seen = Counter()
        for letters, many in ((1, 12), (2, 12), (3, 1)):
            for stands in range(2, 9):
                for back in range(1, min(stands, 4)):
                    for _ in range(many):
                        machine = some_near_pair(chance, stands, stands - back, letters)[0]
                        if fewest(machine) <= 2:
                            seen[fewest(machine), self.check_against_all(machine)] += 1
        for size, wrongs in ((1, 0), (1, 1), (1, 2), (1, 3), (1, 4), (2, 0), (2, 1), (2, 2)):
            self.assertGreater(seen[size, wrongs], 0, (size, wrongs))

    def test_machines_that_end_in_alike_stands(self):
        # Here the start, and each step to the last two stands, may come to either.
        chance = Random(72)
        seen = Counter()
        for front in range(1, 6):
            for _ in range(8):
                machine = some_forked(chance, front, AT_END)
                machine = Machine(machine.steps, some_good(chance, range(front)) + (front + 1,))
                self.assertEqual(fewest(machine), 2)
                seen[self.check_against_all(machine)] += 1
        self.assertGreater(len(seen), 5)

    def test_machines_of_one_letter_against_all_of_three_stands(self):
        chance = Random(73)
        seen = set()
        for front in range(6):
            for _ in range(6):
                steps = tuple((stand + 1,) for stand in range(front + 2)) + ((front,),)
                machine = Machine(steps, some_good(chance, range(front)) + (front + 1,))
                self.assertEqual(fewest(machine), 3)
                seen.add(self.check_against_all(machine))
        self.assertLessEqual({0, 1, 2, 3}, seen)


class AgainstChoicesTests(WrongCase):
    def test_machines_that_fork(self):
        chance = Random(74)
        seen, wide = set(), 0
        for back in (SINKS, AT_END, THREE, ((1, 0), (0, 1)), ((1, 2), (1, 0), (2, 2))):
            for front in range(2, 9 - len(back)):
                for _ in range(12):
                    machine = some_forked(chance, front, back)
                    fewer, more = self.check_against_choices(machine, 64)
                    seen.add(fewer)
                    wide += more is not None and more > fewer
        self.assertLessEqual({0, 1, 2, 3, 4, 5}, seen)
        self.assertGreater(wide, 50)

    def test_choices_hold_the_fewest_of_all(self):
        # The tests of the choices themselves: of all machines of two stands none is wrong at fewer rows.
        chance = Random(75)
        for _ in range(20):
            machine = some_forked(chance, 3, AT_END)
            if fewest(machine) == 2:
                fewer, _ = self.check_against_choices(machine)
                self.assertEqual(fewer, self.check_against_all(machine))

    def test_a_kind_that_few_rows_come_to_is_good_if_most_of_its_rows_are(self):
        self.assertEqual(self.check_against_choices(FORKED), (1, 2))
        # Two rows of one letter come to the stand 1 and one to the stand 2, or the other way round.
        for first, good in product(((1, 1, 2), (1, 2, 2)), ((1, 3), (2, 3))):
            machine = Machine((first, (3, 4, 4), (3, 4, 4), (3, 3, 3), (4, 4, 4)), good)
            self.assertEqual(self.check_against_choices(machine), (1, 3))
            self.assertEqual([plainly_differ(machine, best_lean(machine), (letter,)) for letter in range(3)],
                             [first.count(stand) == 1 for stand in first])

    def test_a_step_leads_to_where_the_fewest_rows_are_wrong(self):
        # The stands 3 and 4 differ at the empty row alone; by the letter 0 two rows come to one, and one to the other.
        for first, (one, other) in product(((1, 1, 2), (1, 2, 2)), ((3, 4), (4, 3))):
            machine = Machine((first, (one, 5, 5), (other, 5, 5), (3, 4, 3), (3, 4, 3), (5, 5, 5)), (4,))
            self.assertEqual(self.check_against_choices(machine), (1, 6))
            self.assertEqual([plainly_differ(machine, best_lean(machine), (letter, 0)) for letter in range(3)],
                             [first.count(stand) == 1 for stand in first])

    def test_the_start_may_be_any_of_its_kind(self):
        # The stands 1 and 2 differ at the empty row alone.
        for good in ((2,), (0, 2)):
            machine = Machine(((2, 2), (1, 2), (1, 2)), good)
            self.assertEqual(self.check_against_choices(machine), (1, 2))
            self.assertEqual(self.check_against_all(machine), 1)
            self.assertFalse(plainly_differ(machine, best_lean(machine), ()))

    def test_some_larger_machines(self):
        chance = Random(76)
        for letters in range(1, 4):
            for stands in range(1, 9):
                for front in range(1, stands):
                    self.check_against_choices(some_near_pair(chance, stands, front, letters)[0], 8)
                self.check_against_choices(some_machine(chance, stands, letters), 8)


class EdgeTests(WrongCase):
    def test_as_few_stands_as_can_be(self):
        # A machine that has the fewest stands already is wrong nowhere.
        for letters in range(1, 4):
            for machine in (letting_all(letters), letting_none(letters)):
                self.assertEqual(self.check_wrong(machine), 0)
                self.assertTrue(best_lean(machine) == machine)
        for good in ((7,), (0, 4), (), (0, 1, 2)):
            self.assertEqual(self.check_wrong(wheel(8, good)), 0)

    def test_chains(self):
        for letters in range(1, 4):
            for stands in range(1, 9):
                rows = all_rows(letters, stands - 2)
                self.assertEqual(self.check_wrong(chain(stands, letters)), len(rows))
                self.assertTrue(best_lean(chain(stands, letters)) == letting_all(letters))

    def test_stands_that_no_row_comes_to_count_for_nothing(self):
        self.assertEqual(self.check_wrong(Machine(((0, 0), (2, 1), (1, 2)), (1,))), 0)
        self.assertEqual(self.check_wrong(Machine(((3, 3), (0, 1), (1, 2), (3, 3)), (1, 3))), 1)


class CallTests(unittest.TestCase):
    def test_nothing_is_modified_and_calls_repeat(self):
        for machine in (FORKED, chain(8, 3)):
            before = Machine(machine.steps, machine.good)
            self.assertEqual(least_wrong(machine), least_wrong(machine))
            self.assertTrue(best_lean(machine) == best_lean(machine))
            self.assertTrue(machine == before)

    def test_all_are_defined_there(self):
        for name in ("least_wrong", "best_lean"):
            self.assertEqual(getattr(wrong, name).__module__, "butfewrows.wrong")


if __name__ == "__main__":
    unittest.main()

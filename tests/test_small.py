import unittest
from itertools import product
from random import Random

from butfewrows import small as small_file
from butfewrows.errors import BadHow, NotComparable, TooMany
from butfewrows.machines import Machine
from butfewrows.small import joined, small

from tests.plain import (all_rows, chain, every_machine, letting_all, letting_none, plain_count, plainly_behind,
                         some_machine, some_near_pair, wheel)

WAYS = {"either": lambda first, second: first or second,
        "both": lambda first, second: first and second,
        "just one": lambda first, second: first != second}
NO_WAYS = ("", "one", "Either", "either ", "just  one", "just one\n", "neither", None, True, False, 0, 1, -1, 10 ** 30,
           (), ("either",), [], ["both"], {}, {"both": "both"})


def places_come_to(start, goals):
    """All places that are come to from a start, in the order of the first rows that come to them."""
    found = [start]
    for place in found:
        found += [goal for goal in dict.fromkeys(goals(place)) if goal not in found]
    return found


def plain_least(places, goals, is_good):
    """How many of the places there are if those count as one that no row tells apart."""
    unlike = {(one, other) for one, other in product(places, repeat=2) if is_good(one) != is_good(other)}
    more = True
    while more:
        more = {(one, other) for one, other in product(places, repeat=2)
                if (one, other) not in unlike and any(pair in unlike for pair in zip(goals(one), goals(other)))}
        unlike |= more
    return sum(all((one, other) in unlike for other in places[:at]) for at, one in enumerate(places))


class SmallCase(unittest.TestCase):
    def check_numbers(self, machine):
        """That stands are numbered as they are come to, and all of them are."""
        letters = len(machine.steps[0])
        order = places_come_to(0, lambda stand: machine.steps[stand])
        self.assertEqual(order, list(range(len(machine))))
        if letters ** len(machine) < 1000:
            rows = all_rows(letters, len(machine) - 1)
            self.assertEqual(list(dict.fromkeys(plainly_behind(machine, row) for row in rows)), order)


class ExampleTests(unittest.TestCase):
    def test_example(self):
        found = small(Machine(((2, 1), (2, 1), (1, 1)), (0, 1)))
        self.assertEqual([found.steps, found.good, joined(found, found, "just one").steps,
                          joined(found, found, "either") == found], [((1, 0), (0, 0)), (0,), ((0, 0),), True])


class SmallTests(SmallCase):
    def check_small(self, machine):
        found = small(machine)
        self.assertIs(type(found), Machine)
        self.assertEqual(plain_count(machine, found), 0)
        self.check_numbers(found)
        places = places_come_to(0, lambda stand: machine.steps[stand])
        self.assertEqual(len(found), plain_least(places, machine.steps.__getitem__, machine.good.__contains__))
        self.assertTrue(small(found) == found)
        return found

    def check_against_all(self, machine):
        """That no machine of one or two stands with fewer stands lets the same rows by."""
        found = self.check_small(machine)
        letters = len(machine.steps[0])
        for stands in range(1, min(len(found), 3)):
            for other in every_machine(stands, letters):
                with self.subTest(steps=machine.steps, good=machine.good, others=other.steps):
                    self.assertNotEqual(plain_count(machine, other), 0)
        return len(found)

    def test_all_small_machines_against_all_of_one_or_two_stands(self):
        for most, letters, sizes in ((4, 1, {1, 2, 3, 4}), (2, 2, {1, 2}), (1, 3, {1})):
            seen = {self.check_against_all(machine) for stands in range(1, most + 1)
                    for machine in every_machine(stands, letters)}
            self.assertEqual(seen, sizes)

    def test_some_machines_against_all_of_one_or_two_stands(self):
        chance = Random(11)
        seen = set()
        for letters in (2, 3):
            for stands in (2, 3, 4, 8):
                for _ in range(6):
                    seen.add(self.check_against_all(some_machine(chance, stands, letters)))
        self.assertLessEqual({1, 2, 3, 4}, seen)

    def test_larger_machines(self):
        chance = Random(12)
        for letters in range(1, 4):
            for stands in range(2, 9):
                for front in range(1, stands):
                    for machine in some_near_pair(chance, stands, front, letters):
                        with self.subTest(steps=machine.steps, good=machine.good):
                            self.check_small(machine)
                for _ in range(10):
                    self.check_small(some_machine(chance, stands, letters))

    def test_machines_for_the_same_rows_have_one_small_machine(self):
        chance = Random(13)
        for letters in range(1, 4):
            for stands in range(1, 5):
                for _ in range(10):
                    machine = some_machine(chance, stands, letters)
                    # Each stand twice, and each step to any of both.
                    twice = Machine(tuple(tuple(goal + stands * chance.randrange(2) for goal in leads)
                                          for leads in machine.steps * 2),
                                    machine.good + tuple(stand + stands for stand in machine.good))
                    self.assertTrue(small(twice) == small(machine))

    def test_one_stand_and_eight(self):
        for letters in range(1, 4):
            for machine in (letting_all(letters), letting_none(letters)):
                self.assertTrue(small(machine) == machine)
                full = Machine(chain(8, letters).steps, tuple(range(8)) if machine.good else ())
                self.assertTrue(small(full) == machine)
            self.assertTrue(small(chain(8, letters)) == chain(8, letters))
        self.assertTrue(small(wheel(8, (7,))) == wheel(8, (7,)))
        self.assertTrue(small(wheel(8, (0, 4))) == wheel(4, (0,)))

    def test_stands_that_no_row_comes_to_are_gone(self):
        self.assertTrue(small(Machine(((0, 0), (2, 1), (1, 2)), (1,))) == letting_none(2))
        self.assertTrue(small(Machine(((2,), (0,), (2,)), (0, 1))) == Machine(((1,), (1,)), (0,)))

    def test_numbers_follow_letters(self):
        machine = Machine(((3, 2, 1), (1, 1, 0), (2, 2, 2), (3, 0, 3)), (1, 3))
        self.assertTrue(small(machine) == Machine(((1, 2, 3), (1, 0, 1), (2, 2, 2), (3, 3, 0)), (1, 3)))


class JoinedTests(SmallCase):
    def check_joined(self, one, other, how):
        """Hold the answer against the pairs of stands that rows come to; the number of its stands."""
        pairs = places_come_to((0, 0), lambda pair: list(zip(one.steps[pair[0]], other.steps[pair[1]])))
        many = plain_least(pairs, lambda pair: list(zip(one.steps[pair[0]], other.steps[pair[1]])),
                           lambda pair: bool(WAYS[how](pair[0] in one.good, pair[1] in other.good)))
        if many > 8:
            with self.assertRaises(TooMany):
                joined(one, other, how)
            return many
        found = joined(one, other, how)
        self.assertIs(type(found), Machine)
        self.assertEqual(len(found), many)
        self.check_numbers(found)
        for first, second, third in places_come_to((0, 0, 0), lambda three: list(zip(
                one.steps[three[0]], other.steps[three[1]], found.steps[three[2]]))):
            self.assertEqual(third in found.good, WAYS[how](first in one.good, second in other.good))
        return many

    def test_all_small_machines_of_one_letter(self):
        machines = [machine for stands in (1, 2) for machine in every_machine(stands, 1)]
        for how in WAYS:
            for one, other in product(machines, repeat=2):
                self.check_joined(one, other, how)

    def test_some_machines(self):
        chance = Random(14)
        seen = set()
        for letters in range(1, 4):
            for stands, others in product(range(1, 9), repeat=2):
                for how in WAYS:
                    seen.add(self.check_joined(some_machine(chance, stands, letters),
                                               some_machine(chance, others, letters), how))
        self.assertLessEqual(set(range(1, 13)), seen)

    def test_against_all_machines_of_one_or_two_stands(self):
        chance = Random(15)
        for letters in (1, 2):
            for how in WAYS:
                for _ in range(10):
                    one, other = some_machine(chance, 2, letters), some_machine(chance, 2, letters)
                    found = joined(one, other, how)
                    for stands in range(1, min(len(found), 3)):
                        for third in every_machine(stands, letters):
                            self.assertNotEqual(plain_count(found, third), 0)

    def test_with_itself_and_with_all_and_none(self):
        chance = Random(16)
        for letters in range(1, 4):
            every, none = letting_all(letters), letting_none(letters)
            for stands in (1, 3, 8):
                machine = some_machine(chance, stands, letters)
                others = Machine(machine.steps, tuple(stand for stand in range(stands) if stand not in machine.good))
                least = small(machine)
                for found in (joined(machine, machine, "either"), joined(machine, machine, "both"),
                              joined(machine, none, "either"), joined(every, machine, "both"),
                              joined(none, machine, "just one"), joined(machine, least, "both")):
                    self.assertTrue(found == least)
                self.assertTrue(joined(machine, every, "either") == every)
                self.assertTrue(joined(none, machine, "both") == none)
                self.assertTrue(joined(machine, machine, "just one") == none)
                self.assertTrue(joined(machine, every, "just one") == small(others))

    def test_just_eight_stands_and_too_many(self):
        def by_letters(many, others):
            """Machines that count the letter 0, and the letter 1, round and round."""
            return (Machine(tuple(((stand + 1) % many, stand) for stand in range(many)), (0,)),
                    Machine(tuple((stand, (stand + 1) % others) for stand in range(others)), (0,)))

        for how in WAYS:
            self.assertEqual(self.check_joined(*by_letters(2, 4), how), 8)
            self.assertEqual(self.check_joined(*by_letters(4, 2), how), 8)
            self.assertEqual(self.check_joined(*by_letters(3, 3), how), 9)
            self.assertEqual(self.check_joined(*by_letters(8, 8), how), 64)
            self.assertEqual(self.check_joined(*by_letters(8, 1), how), 1 if how == "either" else 8)
        self.assertEqual(self.check_joined(wheel(7, (0,)), wheel(8, (0,)), "both"), 56)
        # Many pairs of stands, and yet few stands are needed.
        self.assertEqual(self.check_joined(wheel(7, (0,)), wheel(8, ()), "both"), 1)

    def test_wrong_calls(self):
        one, other = letting_all(2), chain(3, 2)
        for how in NO_WAYS:
            with self.subTest(how=how):
                with self.assertRaises(BadHow):
                    joined(one, other, how)
                with self.assertRaises(NotComparable):
                    joined(one, chain(3, 3), how)
                with self.assertRaises(BadHow):
                    joined(wheel(7, (0,)), wheel(8, (0,)), how)
        for how in WAYS:
            for letters, others in ((1, 2), (2, 1), (3, 2)):
                with self.assertRaises(NotComparable):
                    joined(chain(8, letters), chain(8, others), how)


class CallTests(unittest.TestCase):
    def test_nothing_is_modified_and_calls_repeat(self):
        one, other = Machine(((2, 1), (2, 1), (1, 1)), (0, 1)), chain(4, 2)
        self.assertTrue(small(one) == small(one))
        self.assertTrue(joined(one, other, "either") == joined(one, other, "either"))
        for how in (["either"], {"either": 1}):
            before = type(how)(how)
            with self.assertRaises(BadHow):
                joined(one, other, how)
            self.assertEqual(how, before)
        self.assertTrue(one == Machine(((2, 1), (2, 1), (1, 1)), (0, 1)) and other == chain(4, 2))

    def test_all_are_defined_there(self):
        for name in ("small", "joined"):
            self.assertEqual(getattr(small_file, name).__module__, "butfewrows.small")


if __name__ == "__main__":
    unittest.main()

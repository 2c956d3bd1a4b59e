import unittest
from random import Random

from butfewrows import differing
from butfewrows.differing import count_unlike, kth_unlike, longest, ring, unlike_of, word
from butfewrows.errors import BadNumber, NotComparable
from butfewrows.machines import Machine

from tests.plain import (all_rows, chain, every_machine, letting_all, letting_none, plainly_differ, plainly_unlike,
                         some_machine, some_near_pair, wheel)

NO_NUMBERS = (-1, -10 ** 30, 10 ** 30, True, False, "0", "", None, (), (0,), [], [0], {}, {0: 0})


def told_rows(one, other, length):
    """All that the program tells of the rows of at most a length, one by one."""
    many = sum(unlike_of(one, other, n) for n in range(length + 1))
    return [kth_unlike(one, other, k) for k in range(min(many, 1001))]


class ExampleTests(unittest.TestCase):
    def test_example(self):
        every, late = Machine(((0, 0),), (0,)), Machine(((1, 1), (2, 2), (2, 2)), (2,))
        found = [word(every, late), count_unlike(every, late), longest(every, late), unlike_of(every, late, 1),
                 kth_unlike(every, late, 2)]
        self.assertEqual(found, ["few", 3, 1, 2, (1,)])
        none = Machine(((0, 0),), ())
        found = [word(every, every), longest(every, every), word(every, none), longest(every, none),
                 unlike_of(every, none, 3)]
        self.assertEqual(found, ["alike", -1, "many", None, 8])
        self.assertEqual([ring(every, late), ring(every, none) is None], [None, False])


class PairCase(unittest.TestCase):
    def check_ring(self, one, other):
        found = ring(one, other)
        self.assertIs(type(found), tuple)
        head, loop, tail = found
        for row in found:
            self.assertIs(type(row), tuple)
            self.assertTrue(all(type(letter) is int and 0 <= letter < len(one.steps[0]) for letter in row))
        self.assertNotEqual(loop, ())
        for times in range(70):
            self.assertTrue(plainly_differ(one, other, head + loop * times + tail))

    def check_alike(self, one, other):
        self.assertEqual((word(one, other), count_unlike(one, other), longest(one, other)), ("alike", 0, -1))
        self.assertIsNone(ring(one, other))

    def check_few(self, one, other, rows):
        """That two machines differ just at these rows, some, in order."""
        self.assertEqual(word(one, other), "few")
        self.assertEqual((count_unlike(one, other), longest(one, other)), (len(rows), len(rows[-1])))
        self.assertIsNone(ring(one, other))

    def check_many(self, one, other):
        self.assertEqual((word(one, other), count_unlike(one, other), longest(one, other)), ("many", None, None))
        self.check_ring(one, other)

    def check_rows(self, one, other, rows, most):
        """That the rows of at most so many letters at which two machines differ are these, in order."""
        for length in range(most + 1):
            self.assertEqual(unlike_of(one, other, length), len([row for row in rows if len(row) == length]))
        for k, row in enumerate(rows[:1001]):
            self.assertEqual(kth_unlike(one, other, k), row)

    def check_pair(self, one, other):
        """Hold all answers against a plain count that goes far enough to tell the word."""
        turn = len(one) * len(other)
        rows = plainly_unlike(one, other, 2 * turn - 1)
        # A row as long as there are pairs of stands comes to one pair twice, so it has a ring.
        if not rows:
            self.check_alike(one, other)
        elif len(rows[-1]) < turn:
            self.check_few(one, other, rows)
        else:
            self.check_many(one, other)
        self.check_rows(one, other, rows[:40], min(len(rows[39]) - 1 if len(rows) > 39 else 2 * turn - 1, 9))
        if len(rows) <= 1000 and word(one, other) != "many":
            with self.assertRaises(BadNumber):
                kth_unlike(one, other, len(rows))
        return word(one, other)


class PlainCountTests(PairCase):
    def check_pairs(self, pairs, least):
        """Check pairs both ways round, and that each word stands for at least so many of them."""
        words = []
        for one, other in pairs:
            with self.subTest(one=(one.steps, one.good), other=(other.steps, other.good)):
                words.append(self.check_pair(one, other))
                self.assertEqual(self.check_pair(other, one), words[-1])
        for name in ("alike", "few", "many"):
            self.assertGreaterEqual(words.count(name), least, name)

    def test_all_small_machines_of_one_letter(self):
        machines = [machine for stands in (1, 2) for machine in every_machine(stands, 1)]
        self.check_pairs([(one, other) for one in machines for other in machines], 10)

    def test_larger_machines_of_one_letter(self):
        chance = Random(3)
        pairs = [some_near_pair(chance, stands, front, 1) for stands in range(2, 9) for front in range(1, stands)]
        for stands in range(3, 9):
            pairs += [(some_machine(chance, stands, 1), some_machine(chance, 8, 1)) for _ in range(5)]
            pairs.append([some_machine(chance, stands, 1)] * 2)
        self.check_pairs(pairs, 5)

    def test_small_machines_of_two_letters(self):
        chance = Random(4)
        pairs = [some_near_pair(chance, 2, 1, 2) for _ in range(20)]
        pairs += [(some_machine(chance, 3, 2), some_machine(chance, 2, 2)) for _ in range(20)]
        pairs += [(some_machine(chance, 2, 2), some_machine(chance, 1, 2)) for _ in range(20)]
        self.check_pairs(pairs, 3)

    def test_small_machines_of_three_letters(self):
        chance = Random(5)
        pairs = [some_near_pair(chance, 2, 1, 3) for _ in range(6)]
        pairs += [(some_machine(chance, 3, 3), some_machine(chance, 1, 3)) for _ in range(6)]
        pairs += [(some_machine(chance, 2, 3), some_machine(chance, 2, 3)) for _ in range(4)]
        self.check_pairs(pairs, 1)

    def test_short_rows_of_larger_machines(self):
        chance = Random(6)
        for letters, most in ((2, 8), (3, 5)):
            for stands in range(3, 9):
                for front in range(1, stands):
                    one, other = some_near_pair(chance, stands, front, letters)
                    rows = plainly_unlike(one, other, most)
                    with self.subTest(one=(one.steps, one.good), other=(other.steps, other.good)):
                        self.assertEqual(told_rows(one, other, most), rows[:1001])
                        self.assertEqual(told_rows(other, one, most), rows[:1001])
                        self.check_rows(one, other, rows[:20], 3)
                        if word(one, other) == "many":
                            self.check_many(one, other)

    def test_few_rows_of_larger_machines(self):
        # Rows of more letters than there are stands in front are let by alike: these lead on without a turn.
        chance = Random(7)
        seen = 0
        for letters, most in ((2, 8), (3, 6)):
            for front in range(1, 5):
                for _ in range(20):
                    one, _ = some_near_pair(chance, 8, front, letters)
                    other = Machine(one.steps, tuple(stand for stand in range(8)
                                                     if (stand in one.good) != (stand < front and chance.random() < 0.7)))
                    rows = plainly_unlike(one, other, most)
                    if rows:
                        seen += 1
                        self.check_few(one, other, rows)
                        self.check_few(other, one, rows)
                        self.check_rows(one, other, rows, most)
                    else:
                        self.check_alike(one, other)
        self.assertGreater(seen, 50)


class WordTests(PairCase):
    def test_machines_alike_with_other_numbers_of_stands(self):
        for letters in range(1, 4):
            for stands in range(1, 9):
                full = Machine(chain(stands, letters).steps, tuple(range(stands)))
                self.check_alike(full, letting_all(letters))
                self.check_alike(letting_all(letters), full)
        self.check_alike(wheel(2, (0,)), wheel(8, (0, 2, 4, 6)))

    def test_stands_that_no_row_comes_to_tell_nothing(self):
        one = Machine(((0, 0), (1, 1)), ())
        self.check_alike(one, Machine(((0, 0), (1, 1)), (1,)))

    def test_chains(self):
        for letters in range(1, 4):
            for stands in range(2, 9):
                one, other = letting_all(letters), chain(stands, letters)
                rows = all_rows(letters, stands - 2)
                for first, second in ((one, other), (other, one)):
                    self.check_few(first, second, rows)
                    self.check_rows(first, second, rows, stands)

    def test_many_with_other_numbers_of_stands(self):
        self.check_many(wheel(8, (0,)), wheel(7, (0,)))
        self.check_many(letting_none(1), wheel(8, (3,)))
        self.check_many(chain(8, 3), letting_none(3))


class NumberTests(PairCase):
    def bad_length(self, one, other, length):
        with self.assertRaises(BadNumber):
            unlike_of(one, other, length)

    def bad_k(self, one, other, k):
        with self.assertRaises(BadNumber):
            kth_unlike(one, other, k)

    def test_lengths(self):
        every, none = letting_all(2), letting_none(2)
        self.assertEqual([unlike_of(every, none, length) for length in (0, 1, 40, 41, 199, 200)],
                         [2 ** length for length in (0, 1, 40, 41, 199, 200)])
        self.assertEqual(unlike_of(letting_none(3), letting_all(3), 200), 3 ** 200)
        self.assertEqual([unlike_of(wheel(8, (4,)), letting_none(1), length) for length in (0, 4, 196, 199, 200)],
                         [0, 1, 1, 0, 0])
        self.assertEqual([unlike_of(every, chain(8, 2), length) for length in (0, 6, 7, 200)], [1, 64, 0, 0])
        self.assertEqual([unlike_of(every, every, length) for length in (0, 1, 200)], [0, 0, 0])

    def test_lengths_that_are_none(self):
        for length in NO_NUMBERS + (201, 1000):
            with self.subTest(length=length):
                self.bad_length(letting_all(2), letting_none(2), length)
                self.bad_length(letting_all(2), letting_all(2), length)

    def test_places(self):
        every, none = letting_all(2), letting_none(2)
        rows = all_rows(2, 9)
        self.assertEqual([kth_unlike(every, none, k) for k in (0, 1, 2, 3, 999, 1000)],
                         [rows[k] for k in (0, 1, 2, 3, 999, 1000)])
        self.assertEqual(kth_unlike(letting_all(1), letting_none(1), 1000), (0,) * 1000)
        self.assertEqual(kth_unlike(wheel(8, (7,)), letting_none(1), 1000), (0,) * 8007)

    def test_places_that_are_none(self):
        for k in NO_NUMBERS + (1001,):
            with self.subTest(k=k):
                self.bad_k(letting_all(2), letting_none(2), k)
                self.bad_k(letting_all(3), chain(8, 3), k)
                self.bad_k(letting_all(2), letting_all(2), k)

    def test_places_at_the_number_of_rows(self):
        for stands, many in ((2, 1), (3, 3), (5, 15), (8, 127)):
            for one, other in ((letting_all(2), chain(stands, 2)), (chain(stands, 2), letting_all(2))):
                self.assertEqual(count_unlike(one, other), many)
                self.assertEqual(kth_unlike(one, other, many - 1), (1,) * (stands - 2))
                self.bad_k(one, other, many)
                self.bad_k(one, other, 1000)
        self.bad_k(letting_all(2), letting_all(2), 0)

    def test_more_than_a_thousand_and_one_rows(self):
        one, other = chain(8, 3), letting_all(3)
        self.assertEqual(count_unlike(one, other), 1093)
        self.assertEqual(kth_unlike(one, other, 1000), all_rows(3, 6)[1000])
        self.bad_k(one, other, 1001)
        self.bad_k(one, other, 1092)


class RingTests(PairCase):
    def test_none_where_there_is_no_ring(self):
        self.assertIsNone(ring(letting_all(2), letting_all(2)))
        self.assertIsNone(ring(letting_all(2), chain(8, 2)))
        # A ring that no differing row leaves, and one that no row comes to.
        self.assertIsNone(ring(Machine(((1,), (1,)), (0,)), letting_none(1)))
        self.assertIsNone(ring(Machine(((0,), (1,)), (1,)), letting_none(1)))

    def test_rings(self):
        self.check_ring(letting_all(1), letting_none(1))
        self.check_ring(wheel(7, (6,)), wheel(8, (7,)))
        # The only way to the ring and the only way on from it have one letter each.
        one = Machine(((4, 1, 4), (2, 4, 4), (1, 4, 3), (4, 4, 4), (4, 4, 4)), (3,))
        self.check_ring(one, letting_none(3))
        self.check_ring(letting_none(3), one)


class CallTests(PairCase):
    def test_not_comparable_comes_first(self):
        asked = ((word, ()), (count_unlike, ()), (longest, ()), (ring, ()), (unlike_of, (1,)), (unlike_of, (-1,)),
                 (unlike_of, (True,)), (unlike_of, ("x",)), (kth_unlike, (0,)), (kth_unlike, (1001,)),
                 (kth_unlike, (None,)))
        machines = [letting_all(1), letting_all(2), chain(8, 3)]
        for one in machines:
            for other in machines:
                for function, more in asked:
                    with self.subTest(function.__name__, more=more):
                        if one is not other:
                            with self.assertRaises(NotComparable):
                                function(one, other, *more)

    def test_nothing_is_modified_and_calls_repeat(self):
        one, other = chain(5, 2), letting_all(2)
        for asked in (word, count_unlike, longest, ring):
            self.assertEqual(asked(one, other), asked(one, other))
        self.assertEqual(ring(one, letting_none(2)), ring(one, letting_none(2)))
        self.assertEqual(kth_unlike(one, other, 7), kth_unlike(one, other, 7))
        self.assertEqual(unlike_of(one, other, 2), unlike_of(one, other, 2))
        for length in ([1], {1: 1}):
            before = type(length)(length)
            with self.assertRaises(BadNumber):
                unlike_of(one, other, length)
            self.assertEqual(length, before)
        self.assertTrue(one == chain(5, 2) and other == letting_all(2))

    def test_kinds_of_values(self):
        one, other = chain(3, 2), letting_all(2)
        self.assertIs(type(word(one, other)), str)
        for number in (count_unlike(one, other), longest(one, other), longest(one, one), unlike_of(one, other, 0),
                       count_unlike(one, one), unlike_of(one, one, 1)):
            self.assertIs(type(number), int)
        self.assertIs(type(kth_unlike(one, other, 0)), tuple)

    def test_all_are_defined_there(self):
        for name in ("word", "count_unlike", "longest", "unlike_of", "kth_unlike", "ring"):
            self.assertEqual(getattr(differing, name).__module__, "butfewrows.differing")


if __name__ == "__main__":
    unittest.main()

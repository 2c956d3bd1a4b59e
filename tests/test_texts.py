import unittest
from random import Random

from butfewrows import texts
from butfewrows.errors import InvalidText
from butfewrows.machines import Machine
from butfewrows.texts import read, write

from tests.plain import chain, every_machine, letting_none, some_machine, wheel

EIGHT = "\n".join(["good 7 0"] * 8)


def plain_text(machine):
    return "\n".join(("good " if stand in machine.good else "bad ") + " ".join(map(str, leads))
                     for stand, leads in enumerate(machine.steps))


class TextCase(unittest.TestCase):
    def invalid(self, text, line, word):
        with self.subTest(text=text):
            with self.assertRaises(InvalidText) as caught:
                read(text)
            self.assertEqual((caught.exception.line, caught.exception.word), (line, word))


class ExampleTests(TextCase):
    def test_example(self):
        self.assertEqual(write(Machine(((1, 0), (1, 1)), (1,))).split("\n"), ["bad 1 0", "good 1 1"])
        self.invalid("bad 1 0\ngood 1", 2, 3)


class WriteTests(unittest.TestCase):
    def test_texts(self):
        self.assertEqual(write(letting_none(1)), "bad 0")
        self.assertEqual(write(Machine(((0, 0, 0),), (0,))), "good 0 0 0")
        self.assertEqual(write(Machine(((2, 1), (0, 0), (2, 2)), (0, 2))), "good 2 1\nbad 0 0\ngood 2 2")
        self.assertEqual(write(chain(8, 1)), "bad 1\nbad 2\nbad 3\nbad 4\nbad 5\nbad 6\nbad 7\ngood 7")

    def test_there_and_back(self):
        chance = Random(41)
        machines = [some_machine(chance, stands, letters) for stands in range(1, 9) for letters in range(1, 4)
                    for _ in range(5)]
        for machine in machines + every_machine(1, 3) + every_machine(2, 2):
            text = write(machine)
            self.assertIs(type(text), str)
            self.assertEqual(text, plain_text(machine))
            found = read(text)
            self.assertIs(type(found), Machine)
            self.assertTrue(found == machine)


class SpaceTests(TextCase):
    def test_further_spaces(self):
        machine = Machine(((1, 0), (1, 1)), (1,))
        for text in ("  bad 1 0\ngood 1 1", "bad 1 0  \ngood 1 1", "bad   1 0\ngood 1    1", "bad 1 0\n good 1 1 ",
                     "   bad   1   0   \n   good   1   1   "):
            with self.subTest(text=text):
                self.assertTrue(read(text) == machine)

    def test_spaces_count_for_no_word(self):
        self.invalid("   bad   1   x   ", 1, 2)
        self.invalid("  bad  0  0  0  0  ", 1, 5)
        self.invalid("bad 1 0\n  good  1  ", 2, 3)

    def test_by_chance(self):
        chance = Random(42)
        for _ in range(100):
            machine = some_machine(chance, chance.randrange(1, 9), chance.randrange(1, 4))
            lines = []
            for line in write(machine).split("\n"):
                words = line.split(" ")
                lines.append(" " * chance.randrange(3) + "".join(
                    word + " " * chance.randrange(1, 4) for word in words[:-1]) + words[-1] + " " * chance.randrange(3))
            self.assertTrue(read("\n".join(lines)) == machine)

    def test_other_white_characters_are_no_spaces(self):
        self.invalid("bad\t0", 1, 1)
        self.invalid("bad 0\t", 1, 2)
        self.invalid("bad 0\r\ngood 0", 1, 2)
        self.invalid("bad 0 \u00a0", 1, 3)
        self.invalid("bad 0\x0bgood 0", 1, 2)
        self.invalid("bad 0\u2028good 0", 1, 2)
        self.invalid("\tbad 0", 1, 1)
        # Where no word could follow, one of such a character alone cannot stand either.
        self.invalid("bad 0 0 0 \t", 1, 5)


class WordTests(TextCase):
    def test_first_words(self):
        for word in ("Good", "BAD", "goodbad", "good,", "0", "1", "x", "go", "-", "good0", "None"):
            self.invalid(f"{word} 0", 1, 1)
            self.invalid(word, 1, 1)
            self.invalid(f"good 0\n{word} 0", 2, 1)

    def test_words_that_are_no_stands(self):
        for word in ("2", "8", "10", "-1", "-0", "+0", "00", "01", "0.0", "0x0", "1_0", "x", "good", "bad", "\u0661",
                     "\u00b2", "\uff10", "1,", "None", "True", "99999999999999999999"):
            self.invalid(f"good {word} 0\nbad 0 0", 1, 2)
            self.invalid(f"good 1 {word}\nbad 0 0", 1, 3)
            self.invalid(f"good 1 1\nbad 0 {word}", 2, 3)
            self.invalid(f"good 1 1 1\nbad 0 0 {word}", 2, 4)

    def test_stands_are_as_many_as_lines(self):
        for stands in range(1, 9):
            lines = ["bad 0"] * (stands - 1)
            self.assertEqual(len(read("\n".join(lines + [f"good {stands - 1}"]))), stands)
            self.invalid("\n".join(lines + [f"good {stands}"]), stands, 2)
        # Lines that cannot stand there are lines, too.
        self.invalid("good 1\nx", 2, 1)
        self.invalid("good 2\nx\ny", 2, 1)

    def test_further_letters(self):
        self.invalid("good 0 0 0 0", 1, 5)
        self.invalid("good 0 0 0 x", 1, 5)
        self.invalid("good 0 0 0 0 0 0", 1, 5)
        self.invalid("good 0 0 0\nbad 0 0 0 0", 2, 5)
        self.invalid("good 0\nbad 0 0", 2, 3)
        self.invalid("good 0\nbad 0 x", 2, 3)
        self.invalid("good 0 1\nbad 0 0\nbad 0 0 0", 3, 4)

    def test_too_few_words(self):
        self.invalid("good", 1, 2)
        self.invalid("bad ", 1, 2)
        self.invalid("good 0\nbad", 2, 2)
        self.invalid("good 0 0 0\nbad", 2, 2)
        self.invalid("good 0 0 0\nbad 1", 2, 3)
        self.invalid("good 0 0 0\nbad 1 1", 2, 4)
        self.invalid("good 0 0\nbad 1 1\nbad 2", 3, 3)

    def test_lines_without_words(self):
        self.invalid("", 1, 1)
        self.invalid("   ", 1, 1)
        self.invalid("\n", 1, 1)
        self.invalid("good 0\n", 2, 1)
        self.invalid("good 1\n", 2, 1)
        self.invalid("good 0\n   ", 2, 1)
        self.invalid("\ngood 0", 1, 1)
        self.invalid("good 0\n\nbad 0", 2, 1)
        self.invalid("\n".join(["good 0 0"] * 7) + "\n", 8, 1)

    def test_of_several_faults_the_first_is_told(self):
        self.invalid("good 5 7 0 0 0\nx", 1, 2)
        self.invalid("x 5", 1, 1)
        self.invalid("good 1 1\nbad 9\ngood 1 1 1", 2, 2)
        self.invalid("good 1 1\nbad 0 0 9\n\n", 2, 4)
        self.invalid("good 1 1\nbad\nx", 2, 2)
        self.invalid("good x", 1, 2)


class LineTests(TextCase):
    def test_eight_lines(self):
        self.assertTrue(read(EIGHT) == Machine(((7, 0),) * 8, tuple(range(8))))
        self.assertTrue(read(write(wheel(8, (2, 7)))) == wheel(8, (2, 7)))

    def test_a_ninth_line(self):
        for last in ("good 0 0", "bad 7 7", "good 8 8", "", "  ", "x", "good 0 0 0 0", "good 0 0\ngood 0 0", "\n\n\n"):
            self.invalid(EIGHT + "\n" + last, 9, 1)

    def test_the_first_eight_of_more_lines_come_first(self):
        for last in ("good 0 0", "", "x"):
            for more in (1, 2, 30):
                rest = f"\n{last}" * more
                for index in range(8):
                    for line, word in (("good 8 0", 2), ("good 0 8", 3), ("", 1), ("0 0", 1)):
                        lines = ["good 7 0"] * 8
                        lines[index] = line
                        self.invalid("\n".join(lines) + rest, index + 1, word)
        self.invalid("good 0\n" * 8, 9, 1)
        self.invalid("good 8\n" * 9, 1, 2)


class CallTests(unittest.TestCase):
    def test_nothing_is_modified_and_calls_repeat(self):
        machine = chain(4, 2)
        self.assertEqual(write(machine), write(machine))
        self.assertTrue(read(EIGHT) == read(EIGHT))
        self.assertTrue(machine == chain(4, 2))

    def test_all_are_defined_there(self):
        for name in ("write", "read"):
            self.assertEqual(getattr(texts, name).__module__, "butfewrows.texts")


if __name__ == "__main__":
    unittest.main()

"""Many programs, in all four ways, against going through them one order after another."""

import random
import unittest

from tests.support import SHOWS, Timetable, go, load, mem, one_by_one, order, random_words, reg, signed, told

WORDS_LOOKED_AT = (0, 1, 2, 3, 5, 8, 1019, 1021, 1022, 1023)
SIZES = ((4, 2, 3), (8, 4, 3), (12, 6, 4), (20, 4, 5), (40, 18, 6), (60, 60, 16))


def looks():
    return [SHOWS] + [reg(r) for r in range(16)] + [mem(a) for a in WORDS_LOOKED_AT]


def expected_looks(table, cycle):
    registers, memory = table.registers(cycle), table.memory(cycle)
    values = registers + [memory[a] for a in WORDS_LOOKED_AT]
    return [table.shows(cycle)] + [[0, number] for number in values]


def programs(seed, count):
    source = random.Random(seed)
    for number in range(count):
        most_orders, span, registers = SIZES[number % len(SIZES)]
        yield random_words(source, most_orders, span, registers)


def programs_that_share_guesses(seed, count):
    """Branches at places that have their lowest 4 bits in common, near one another through jumps."""
    source = random.Random(seed)
    for number in range(count):
        words = []
        for place in range(source.choice((18, 34, 50))):
            kind = source.choice((9, 10)) if place % 16 < 2 else source.choice((6, 11, 11, 9, 10))
            n = source.choice((1, 1, 2, 3, -1, -2, 15, 16, -15, -16, -17))
            words.append(order(kind, source.randrange(3), source.randrange(3), source.randrange(3), n))
        yield words


class EveryCycle(unittest.TestCase):
    def check(self, words, way, pieces):
        table = Timetable(words, way, sum(pieces) + 5)
        calls, expected, cycle = [load(words, way)], [[0]], 0
        for cycles in pieces:
            cycle += cycles
            calls += [go(cycles)] + looks()
            expected += [table.shows(cycle)[:1]] + expected_looks(table, cycle)
        self.assertEqual(told(*calls), expected, (words, way, pieces))

    def test_one_by_one(self):
        for words in programs(1, 120):
            for way in range(4):
                self.check(words, way, [1] * 60)

    def test_in_pieces(self):
        source = random.Random(2)
        for words in programs(3, 300):
            for way in range(4):
                self.check(words, way, [source.choice((1, 2, 3, 5, 17, 70, 200)) for each in range(8)])

    def test_shared_guesses(self):
        for words in programs_that_share_guesses(4, 300):
            for way in (2, 3):
                self.check(words, way, [7, 20, 60, 100])


class AtOnceOrOneByOne(unittest.TestCase):
    def check(self, words, way, cycles):
        at_once = told(load(words, way), go(cycles), *looks())[2:]
        single = told(load(words, way), *[go(1)] * cycles, *looks())[1 + cycles:]
        self.assertEqual(at_once, single, (words, way, cycles))

    def test_many_programs(self):
        source = random.Random(5)
        for words in programs(6, 60):
            for way in range(4):
                self.check(words, way, source.randrange(1, 900))

    def test_programs_that_go_round_for_ever(self):
        rounds = (
            [order(11)],
            [order(9)],
            [order(10, 0, 0, 0, 5), order(11, 0, 0, 0, -1)],
            [order(6, 1, 0, 0, 1), order(4, 2, 2, 1), order(9, 0, 0, 0, -1)],
            [order(6, 1, 0, 0, 1), order(4, 2, 2, 1), order(8, 0, 0, 2, 1023), order(11, 0, 0, 0, -2)],
            [order(6, 1, 1, 0, 1), order(11, 0, 0, 0, -1)],
            [order(6, 1, 0, 0, 255), order(6, 2, 2, 0, 1), order(2, 2, 2, 1), order(8, 0, 2, 2, 0),
             order(11, 0, 0, 0, -3)],
            [order(6, 1, 0, 0, 15), order(7, 2, 0, 0, 9), order(6, 2, 2, 0, 1), order(2, 2, 2, 1),
             order(8, 0, 0, 2, 9), order(9, 0, 0, 0, -4)],
        )
        for words in rounds:
            for way in range(4):
                for cycles in (63, 64, 65, 200, 1000, 2500):
                    self.check(words, way, cycles)

    def test_a_round_that_ends_late_is_not_taken_for_one_that_never_does(self):
        words = [order(6, 1, 0, 0, 30000), order(6, 1, 1, 0, -1), order(10, 0, 1, 0, -1)]
        given = told(load(words, 3), go(1000000), reg(1), SHOWS)
        self.assertEqual(given[1:], [[1], [0, 0], [1, -1, -1, -1, -1, 60010, 60001, 0, 4]])

    def test_what_memory_or_a_guess_alone_holds_is_not_forgotten(self):
        # Each round looks the same in the registers; memory counts on to the end.
        words = [order(7, 1, 0, 0, 5), order(6, 1, 1, 0, 1), order(8, 0, 0, 1, 5), order(6, 2, 0, 0, 400),
                 order(9, 0, 1, 2, 4), order(6, 1, 0, 0, 0), order(6, 2, 0, 0, 0), order(11, 0, 0, 0, -7)]
        for way in range(4):
            given = told(load(words, way), go(1000000), mem(5))
            self.assertEqual(given[1:], [[1], [0, 400]])
            self.check(words, way, 2000)


class AtTheEnd(unittest.TestCase):
    def check(self, words, way):
        steps, registers, memory = one_by_one(words, 3000)
        if steps[-1].kind != 12:
            return 0
        given = told(load(words, way), go(30000), *[reg(r) for r in range(16)], *[mem(a) for a in range(1024)], SHOWS)
        self.assertEqual(given[1], [1])
        self.assertEqual(given[2:-1], [[0, signed(number)] for number in registers + memory], (words, way))
        self.assertEqual(given[-1][6], len(steps) - 1)
        return 1

    def test_registers_and_memory_come_to_what_they_would(self):
        ended = 0
        for words in programs(7, 400):
            for way in range(4):
                ended += self.check(words, way)
        self.assertGreater(ended, 400)

    def test_a_program_that_sums_what_it_stored(self):
        words = [
            order(6, 1, 0, 0, 50),
            order(8, 0, 1, 1, 100), order(6, 1, 1, 0, -1), order(10, 0, 1, 0, -2),
            order(6, 1, 0, 0, 50), order(11, 15, 0, 0, 2), order(12),
            order(7, 2, 1, 0, 100), order(0, 3, 3, 2), order(6, 1, 1, 0, -1), order(10, 0, 1, 0, -3),
            order(8, 0, 0, 3, -1), order(9, 0, 0, 0, -6),
        ]
        for way in range(4):
            self.assertEqual(self.check(words, way), 1)
            self.assertEqual(told(load(words, way), go(5000), reg(3), mem(1023), reg(15))[2:], [
                [0, 1275], [0, 1275], [0, 6]])


if __name__ == "__main__":
    unittest.main()

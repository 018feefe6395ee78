"""What each order does, in all four ways."""

import unittest

from tests.support import go, load, mem, order, reg, told

PAIRS = ((0, 0), (5, 3), (3, 5), (-1, 1), (1, -1), (-1, -1), (-7, -8), (12, 10), (-32768, 32767), (4, 4))


def value_words(target, value):
    """Orders that leave a value of up to 16 bits with its sign in a register."""
    return [order(6, target, 0, 0, value)]


def extreme_words():
    """Register 1: the least number; register 2: the greatest."""
    return [order(6, 1, 0, 0, 16384)] + [order(0, 1, 1, 1)] * 17 + [order(6, 2, 1, 0, -1)]


class Orders(unittest.TestCase):
    def registers_after(self, words, *wanted):
        """The registers' values, which must be the same in all four ways."""
        found = []
        for way in range(4):
            given = told(load(words, way), go(5000), *[reg(r) for r in wanted])
            self.assertEqual(given[1], [1])
            found.append([answer[1] for answer in given[2:]])
        self.assertEqual(found, found[:1] * 4)
        return found[0]

    def check_pairs(self, kind, reckons):
        for x, y in PAIRS:
            words = value_words(1, x) + value_words(2, y) + [order(kind, 3, 1, 2, 77)]
            self.assertEqual(self.registers_after(words, 1, 2, 3), [x, y, reckons(x, y)], (kind, x, y))

    def test_0_sum(self):
        self.check_pairs(0, lambda x, y: x + y)

    def test_1_difference(self):
        self.check_pairs(1, lambda x, y: x - y)

    def test_2_and(self):
        self.check_pairs(2, lambda x, y: x & y)

    def test_3_or(self):
        self.check_pairs(3, lambda x, y: x | y)

    def test_4_either_but_not_both(self):
        self.check_pairs(4, lambda x, y: x ^ y)

    def test_5_less_with_signs(self):
        self.check_pairs(5, lambda x, y: int(x < y))

    def test_5_less_at_the_ends_of_32_bits(self):
        words = extreme_words() + [
            order(5, 3, 1, 2), order(5, 4, 2, 1), order(5, 5, 1, 0), order(5, 6, 0, 1), order(5, 7, 0, 2)]
        self.assertEqual(self.registers_after(words, 3, 4, 5, 6, 7), [1, 0, 1, 0, 1])

    def test_sums_and_differences_are_cut(self):
        words = extreme_words() + [
            order(6, 3, 2, 0, 1), order(1, 4, 1, 2), order(0, 5, 1, 1), order(1, 6, 2, 1), order(1, 7, 0, 1)]
        self.assertEqual(self.registers_after(words, 3, 4, 5, 6, 7), [-2147483648, 1, 0, -1, -2147483648])

    def test_6_number_with_its_sign(self):
        for number in (0, 1, -1, 32767, -32768):
            words = value_words(1, 100) + [order(6, 2, 1, 9, number)]
            self.assertEqual(self.registers_after(words, 1, 2), [100, 100 + number])

    def test_7_and_8_use_the_lowest_10_bits_of_the_address(self):
        for base, number, at in ((0, 0, 0), (0, 1023, 1023), (0, 1024, 0), (0, -1, 1023), (-1, 0, 1023),
                                 (-1, 1, 0), (1023, 1, 0), (5, 6, 11), (32767, 32767, 1022), (-32768, -1, 1023)):
            words = value_words(1, base) + value_words(2, 321)
            words += [order(8, 9, 1, 2, number), order(7, 3, 0, 9, at), order(7, 4, 1, 9, number)]
            self.assertEqual(self.registers_after(words, 3, 4, 9), [321, 321, 0], (base, number))
            for way in range(4):
                self.assertEqual(told(load(words, way), go(99), mem(at))[2], [0, 321])

    def test_7_and_8_at_the_ends_of_32_bits(self):
        words = extreme_words() + [order(8, 0, 2, 2, 1), order(7, 3, 0, 0, 0), order(8, 0, 1, 1, -1),
                                   order(7, 4, 0, 0, 1023)]
        self.assertEqual(self.registers_after(words, 3, 4), [2147483647, -2147483648])

    def test_8_stores_the_value_of_its_time(self):
        words = [order(6, 1, 0, 0, 1), order(8, 0, 0, 1, 0), order(6, 1, 0, 0, 2), order(8, 0, 0, 1, 1),
                 order(7, 2, 0, 0, 0), order(8, 0, 0, 0, 0), order(7, 3, 0, 0, 0), order(7, 4, 0, 0, 1)]
        self.assertEqual(self.registers_after(words, 2, 3, 4), [1, 0, 2])

    def test_9_and_10_go_or_do_not(self):
        for kind, goes in ((9, lambda x, y: x == y), (10, lambda x, y: x != y)):
            for x, y in PAIRS:
                words = value_words(1, x) + value_words(2, y)
                words += [order(kind, 5, 1, 2, 2), order(6, 3, 0, 0, 1), order(6, 4, 0, 0, 1)]
                found = self.registers_after(words, 3, 4, 5)
                self.assertEqual(found, [0 if goes(x, y) else 1, 1, 0], (kind, x, y))

    def test_9_and_10_go_back(self):
        words = [order(6, 1, 0, 0, 5), order(6, 2, 2, 0, 3), order(6, 1, 1, 0, -1), order(10, 0, 1, 0, -2),
                 order(6, 4, 4, 0, 1), order(6, 3, 3, 0, 1), order(9, 0, 3, 4, -1), order(6, 5, 0, 0, 9)]
        self.assertEqual(self.registers_after(words, 1, 2, 3, 4, 5), [0, 15, 2, 1, 9])

    def test_9_and_10_with_number_1(self):
        for kind in (9, 10):
            words = [order(kind, 0, 0, 0, 1), order(6, 1, 0, 0, 4)]
            self.assertEqual(self.registers_after(words, 1), [4])

    def test_11_keeps_the_next_place_and_goes(self):
        words = [order(6, 1, 0, 0, 1), order(11, 2, 0, 0, 3), order(6, 3, 0, 0, 1), order(12),
                 order(6, 4, 0, 0, 1), order(11, 5, 4, 4, -3)]
        self.assertEqual(self.registers_after(words, 1, 2, 3, 4, 5), [1, 2, 1, 1, 6])

    def test_11_to_the_next_place(self):
        self.assertEqual(self.registers_after([order(11, 1, 0, 0, 1), order(11, 2, 0, 0, 1)], 1, 2), [1, 2])

    def test_12_ends(self):
        words = [order(6, 1, 0, 0, 1), order(12, 1, 2, 3, 4), order(6, 1, 0, 0, 2), order(6, 2, 0, 0, 2)]
        self.assertEqual(self.registers_after(words, 1, 2), [1, 0])

    def test_register_0_stays_0(self):
        writing = [order(kind, 0, 1, 2, 5) for kind in range(7)] + [order(7, 0, 0, 0, 6), order(11, 0, 0, 0, 1)]
        for word in writing:
            words = [order(6, 1, 0, 0, 9), order(6, 2, 0, 0, 12), order(8, 0, 0, 1, 6), word,
                     order(6, 3, 0, 0, 0), order(0, 4, 0, 0), order(3, 5, 0, 0), order(6, 6, 0, 0, 0)]
            self.assertEqual(self.registers_after(words, 0, 3, 4, 5, 6), [0, 0, 0, 0, 0])

    def test_register_0_never_goes_to_memory_as_something_else(self):
        for way in range(4):
            words = [order(6, 0, 0, 0, 7), order(8, 0, 0, 0, 1), order(6, 0, 0, 0, 7), order(8, 0, 0, 0, 2)]
            self.assertEqual(told(load(words, way), go(99), mem(1), mem(2))[2:], [[0, 0], [0, 0]])

    def test_all_registers_by_their_4_bits(self):
        words = [order(6, r, 0, 0, 1000 + r) for r in range(1, 16)]
        words += [order(1, r, r, 16 - r) for r in (15, 8)]
        self.assertEqual(self.registers_after(words, 15, 8, 1), [1015 - 1001, 0, 1001])

    def test_behind_the_program_it_ends(self):
        for words in ([], [order(6, 1, 0, 0, 1)], [order(6, 1, 0, 0, 1)] * 1024):
            self.assertEqual(self.registers_after(words, 1)[0], 1 if words else 0)


if __name__ == "__main__":
    unittest.main()

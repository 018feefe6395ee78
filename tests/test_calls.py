"""The calls: what each answers, its refusals, and which refusal is told first."""

import contextlib
import io
import unittest

from fivestages.machine import answers
from tests.support import SHOWS, go, load, mem, order, reg, told

END = order(12)
NOTHING_YET = [0, -1, -1, -1, -1, 0, 0, 0, 0]
MILLION = 1000000
LEAST, MOST = -2147483648, 2147483647


def busy_program():
    """Something in registers, memory and the guesses, and a long way from its end."""
    return [order(6, 1, 1, 0, 7), order(8, 0, 0, 1, 3), order(10, 0, 1, 0, -2), END]


class Form(unittest.TestCase):
    def test_each_answer_has_its_length_before_it(self):
        line = load([END]) + go(2) + SHOWS + reg(1) + mem(2) + reg(16) + mem(-1) + go(0)
        self.assertEqual(answers(line), [
            1, 0, 1, 0, 9, 0, -1, 0, -1, -1, 2, 0, 0, 0, 2, 0, 0, 2, 0, 0, 1, -1, 1, -1, 1, -1])

    def test_answers_are_whole_numbers_in_a_list(self):
        given = answers(load([]) + go(5) + SHOWS + reg(0) + mem(0))
        self.assertIs(type(given), list)
        self.assertEqual({type(number) for number in given}, {int})

    def test_what_is_handed_in_stays_as_it_was(self):
        line = load(busy_program(), 3) + go(50) + SHOWS + load([order(13)]) + load(busy_program(), 1) + go(9)
        before = list(line)
        answers(line)
        self.assertEqual(line, before)

    def test_what_is_handed_in_is_only_read(self):
        class ReadOnly(list):
            def refuse(self, *given):
                raise AssertionError("changed")
            __setitem__ = __delitem__ = __iadd__ = __imul__ = refuse
            append = extend = insert = pop = remove = clear = sort = reverse = refuse
        line = load(busy_program(), 3) + go(50) + SHOWS
        self.assertEqual(answers(ReadOnly(line)), answers(line))

    def test_a_second_time_answers_as_the_first_did(self):
        line = load(busy_program(), 3) + go(50) + SHOWS + reg(1) + mem(3)
        first = answers(line)
        answers(load([order(6, 2, 0, 0, 5)], 2) + go(MILLION))
        self.assertEqual(answers(line), first)

    def test_a_given_list_of_answers_is_the_callers_own(self):
        line = load([]) + SHOWS
        first = answers(line)
        first.clear()
        self.assertEqual(answers(line), [1, 0, 9] + NOTHING_YET)

    def test_nothing_is_printed(self):
        out, errors = io.StringIO(), io.StringIO()
        with contextlib.redirect_stdout(out), contextlib.redirect_stderr(errors):
            answers(load(busy_program(), 3) + go(50) + SHOWS + go(0))
        self.assertEqual((out.getvalue(), errors.getvalue()), ("", ""))

    def test_the_longest_lines(self):
        self.assertEqual(told(load([]), *[go(1)] * 2999)[1:], [[0]] * 4 + [[1]] * 2995)
        words = [order(6, 1, 1, 0, 1)] * 1024
        self.assertEqual(told(*[load(words)] * 29), [[0]] * 29)


class Load(unittest.TestCase):
    def test_n_from_0_to_1024(self):
        for n in (0, 1, 2, 1023, 1024):
            self.assertEqual(told(load([END] * n), SHOWS), [[0], NOTHING_YET])

    def test_n_outside(self):
        for n in (-1, 1025, LEAST, MOST):
            self.assertEqual(told(load([]), [1, n, 0, 0], SHOWS), [[0], [-1], NOTHING_YET])

    def test_all_1024_orders_are_the_program(self):
        words = [order(6, 1, 1, 0, 1)] * 1024
        self.assertEqual(told(load(words, 1), go(2000), reg(1), SHOWS)[1:], [
            [1], [0, 1024], [1, -1, -1, -1, -1, 1029, 1024, 0, 0]])

    def test_way_from_0_to_3(self):
        for way in range(4):
            self.assertEqual(told(load([END], way)), [[0]])

    def test_way_outside(self):
        for way in (-1, 4, 5, 7, LEAST, MOST):
            self.assertEqual(told(load([]), load([END], way), SHOWS), [[0], [-1], NOTHING_YET])

    def test_orders_from_0_to_12(self):
        for kind in range(13):
            self.assertEqual(told(load([order(kind, 15, 15, 15, -1)])), [[0]])
        for kind in (13, 14, 15):
            for high in (0, 0xFFFFFFF0, 0x12345670):
                self.assertEqual(told(load([]), load([END, END, kind | high])), [[0], [-3]])
                self.assertEqual(told(load([]), load([kind | high, END])), [[0], [-3]])

    def test_an_order_that_is_never_reached_counts_too(self):
        self.assertEqual(told(load([]), load([END] * 1023 + [order(15)])), [[0], [-3]])

    def test_way_is_told_ahead_of_an_order(self):
        self.assertEqual(told(load([]), load([order(13)], 4), load([order(13)], -1)), [[0], [-1], [-1]])

    def test_n_and_way_both_outside(self):
        self.assertEqual(told(load([]), [1, 1025, 4, 0]), [[0], [-1]])

    def test_a_load_begins_anew(self):
        looks = [SHOWS] + [reg(r) for r in range(16)] + [mem(a) for a in range(8)]
        for way in range(4):
            for cycles in (1, 4, 9, 30):
                used = told(load(busy_program(), way), go(cycles), load(busy_program(), way), *looks)
                self.assertEqual(used[3:], [NOTHING_YET] + [[0, 0]] * 24)
                again = told(load(busy_program(), way), go(30), load(busy_program(), way), go(cycles), *looks)
                fresh = told(load(busy_program(), way), go(cycles), *looks)
                self.assertEqual(again[3:], fresh[1:])

    def test_a_load_behind_the_end_begins_anew(self):
        self.assertEqual(told(load([]), go(5), load([]), go(4), go(1)), [[0], [1], [0], [0], [1]])

    def test_a_refused_load_changes_nothing(self):
        looks = [SHOWS] + [reg(r) for r in range(16)] + [mem(a) for a in range(8)]
        for refused in (load([order(14)], 1), load([END], 4), [1, 1025, 0, 0], [1, -1, 0, 0]):
            for way in range(4):
                with_it = told(load(busy_program(), way), go(7), refused, *looks, go(6), *looks)
                without = told(load(busy_program(), way), go(7), *looks, go(6), *looks)
                self.assertEqual(with_it[:2] + with_it[3:], without)

    def test_a_refused_load_keeps_what_was_asked_for(self):
        calls = [load([])] + [go(MILLION)] * 2000 + [load([order(13)]), go(1), load([]), go(1)]
        self.assertEqual(told(*calls)[-4:], [[-3], [-4], [0], [0]])


class Go(unittest.TestCase):
    def test_cycles_from_1_to_a_million(self):
        self.assertEqual(told(load([]), go(1), SHOWS)[1:], [[0], [0, 0, -1, -1, -1, 1, 0, 0, 0]])
        self.assertEqual(told(load([order(11)]), go(MILLION), SHOWS)[1:], [
            [0], [0, 0, 0, 0, 0, MILLION, MILLION - 4, 0, 0]])

    def test_cycles_outside_change_nothing(self):
        for cycles in (0, -1, MILLION + 1, LEAST, MOST):
            self.assertEqual(told(load([]), go(2), go(cycles), SHOWS), [
                [0], [0], [-1], [0, -1, 0, -1, -1, 2, 0, 0, 0]])

    def test_it_tells_whether_it_has_ended(self):
        self.assertEqual(told(load([]), go(4), go(1), go(1), go(MILLION)), [[0], [0], [1], [1], [1]])
        self.assertEqual(told(load([]), go(5)), [[0], [1]])
        self.assertEqual(told(load([]), go(6)), [[0], [1]])

    def test_2000000000_in_all_also_behind_the_end(self):
        given = told(load([]), *[go(MILLION)] * 2000, go(1), go(MILLION), SHOWS)
        self.assertEqual(given[1:2001], [[1]] * 2000)
        self.assertEqual(given[2001:], [[-4], [-4], [1, -1, -1, -1, -1, 5, 0, 0, 0]])

    def test_2000000000_in_all_without_an_end(self):
        given = told(load([order(11)]), *[go(MILLION)] * 2000, go(1), SHOWS)
        self.assertEqual(given[1:2001], [[0]] * 2000)
        self.assertEqual(given[2001:], [[-4], [0, 0, 0, 0, 0, 2000000000, 1999999996, 0, 0]])

    def test_refused_cycles_do_not_count_in_all(self):
        calls = [load([])] + [go(MILLION)] * 1999 + [go(MILLION - 1), go(2), go(0), go(MILLION), go(1), go(1)]
        self.assertEqual(told(*calls)[2000:], [[1], [-4], [-1], [-4], [1], [-4]])

    def test_cycles_outside_are_told_ahead_of_too_many_in_all(self):
        calls = [load([])] + [go(MILLION)] * 2000 + [go(0), go(MILLION + 1), go(MOST), go(MILLION)]
        self.assertEqual(told(*calls)[2001:], [[-1], [-1], [-1], [-4]])

    def test_too_many_in_all_is_refused_whole(self):
        calls = [load([order(11)])] + [go(MILLION)] * 1999 + [go(MILLION - 3), go(4), SHOWS]
        self.assertEqual(told(*calls)[2001:], [[-4], [0, 0, 0, 0, 0, 1999999997, 1999999993, 0, 0]])


class Shows(unittest.TestCase):
    def test_at_first(self):
        self.assertEqual(told(load([END], 3), SHOWS), [[0], NOTHING_YET])

    def test_it_changes_nothing(self):
        self.assertEqual(told(load([]), go(3), SHOWS, SHOWS, go(1), SHOWS)[2:], [
            [0, -1, -1, 0, -1, 3, 0, 0, 0]] * 2 + [[0], [0, -1, -1, -1, 0, 4, 0, 0, 0]])

    def test_each_number_has_its_place(self):
        words = [order(6, 1, 0, 0, 1), order(7, 2, 0, 0, 0), order(0, 3, 2, 1), order(9, 0, 0, 0, 2)]
        self.assertEqual(told(load(words, 1), go(5), SHOWS)[2], [0, 3, 2, -1, 1, 5, 1, 1, 0])
        self.assertEqual(told(load(words, 1), go(7), SHOWS)[2], [0, -1, -1, 3, 2, 7, 2, 1, 2])
        self.assertEqual(told(load(words, 1), go(99), SHOWS)[2], [1, -1, -1, -1, -1, 12, 4, 1, 2])


class RegAndMem(unittest.TestCase):
    def test_registers_0_and_15_and_just_outside(self):
        words = [order(6, r, 0, 0, 100 + r) for r in range(16)]
        given = told(load(words, 1), go(30), *[reg(r) for r in (-1, 0, 1, 14, 15, 16, LEAST, MOST)])
        self.assertEqual(given[2:], [[-1], [0, 0], [0, 101], [0, 114], [0, 115], [-1], [-1], [-1]])

    def test_words_0_and_1023_and_just_outside(self):
        words = [order(6, 1, 0, 0, 5), order(6, 2, 0, 0, 6), order(8, 0, 0, 1, 0), order(8, 0, 0, 2, 1023)]
        given = told(load(words, 1), go(30), *[mem(a) for a in (-1, 0, 1, 1022, 1023, 1024, LEAST, MOST)])
        self.assertEqual(given[2:], [[-1], [0, 5], [0, 0], [0, 0], [0, 6], [-1], [-1], [-1]])

    def test_all_are_0_at_first(self):
        looks = [reg(r) for r in range(16)] + [mem(a) for a in range(1024)]
        self.assertEqual(told(load([END], 3), *looks), [[0]] + [[0, 0]] * 1040)

    def test_the_sign_at_32_bits(self):
        words = [order(6, 1, 0, 0, 16384)] + [order(0, 1, 1, 1)] * 17
        words += [order(6, 2, 1, 0, -1), order(6, 3, 0, 0, -1), order(0, 4, 1, 1)]
        words += [order(8, 0, 0, r, r) for r in (1, 2, 3, 4)]
        for way in range(4):
            given = told(load(words, way), go(200), *[reg(r) for r in (1, 2, 3, 4)], *[mem(a) for a in (1, 2, 3, 4)])
            self.assertEqual(given[2:], [[0, LEAST], [0, MOST], [0, -1], [0, 0]] * 2)

    def test_they_change_nothing(self):
        with_them = told(load(busy_program()), go(9), reg(1), reg(16), mem(3), mem(1024), SHOWS, go(9), SHOWS)
        without = told(load(busy_program()), go(9), SHOWS, go(9), SHOWS)
        self.assertEqual(with_them[6:], without[2:])

    def test_a_register_holds_only_what_was_written(self):
        for cycles, value in ((1, 0), (4, 0), (5, 7), (6, 7)):
            self.assertEqual(told(load([order(6, 1, 0, 0, 7)], 1), go(cycles), reg(1))[2], [0, value])

    def test_memory_holds_what_the_stage_before_writing_stored(self):
        words = [order(6, 1, 0, 0, 7), order(8, 0, 0, 1, 9)]
        for cycles, value in ((4, 0), (5, 7), (6, 7)):
            self.assertEqual(told(load(words, 1), go(cycles), mem(9))[2], [0, value])


if __name__ == "__main__":
    unittest.main()

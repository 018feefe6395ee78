"""What goes on in the stages, cycle by cycle, in each of the four ways."""

import unittest

from fivestages.pipeline import Pipeline
from tests.support import SHOWS, go, load, order, reg, told

LATE = 500


def shown(words, way, cycles):
    return told(load(words, way), go(cycles), SHOWS)[2]


def run_out(words, way):
    """How many cycles, orders done, cycles waited and orders lost, up to the end."""
    last = shown(words, way, LATE)
    if last[:5] != [1, -1, -1, -1, -1]:
        raise AssertionError(last)
    return last[5:]


def value(words, way, r):
    return told(load(words, way), go(LATE), reg(r))[2][1]


def add(d, a=0, n=1):
    return order(6, d, a, 0, n)


class Moving(unittest.TestCase):
    def test_an_order_12_alone(self):
        for way in range(4):
            self.assertEqual([shown([], way, cycles) for cycles in range(1, 8)], [
                [0, 0, -1, -1, -1, 1, 0, 0, 0], [0, -1, 0, -1, -1, 2, 0, 0, 0], [0, -1, -1, 0, -1, 3, 0, 0, 0],
                [0, -1, -1, -1, 0, 4, 0, 0, 0], [1, -1, -1, -1, -1, 5, 0, 0, 0],
                [1, -1, -1, -1, -1, 5, 0, 0, 0], [1, -1, -1, -1, -1, 5, 0, 0, 0]])

    def test_one_order_behind_another(self):
        words = [add(1), add(2), add(3)]
        for way in range(4):
            self.assertEqual([shown(words, way, cycles) for cycles in range(1, 9)], [
                [0, 0, -1, -1, -1, 1, 0, 0, 0], [0, 1, 0, -1, -1, 2, 0, 0, 0], [0, 2, 1, 0, -1, 3, 0, 0, 0],
                [0, 3, 2, 1, 0, 4, 0, 0, 0], [0, -1, 3, 2, 1, 5, 1, 0, 0], [0, -1, -1, 3, 2, 6, 2, 0, 0],
                [0, -1, -1, -1, 3, 7, 3, 0, 0], [1, -1, -1, -1, -1, 8, 3, 0, 0]])

    def test_nothing_is_fetched_behind_an_order_12(self):
        words = [order(12), add(1), order(11, 0, 0, 0, -2)]
        for way in range(4):
            self.assertEqual(run_out(words, way), [5, 0, 0, 0])
            self.assertEqual(value(words, way, 1), 0)

    def test_behind_the_end_nothing_changes(self):
        words = [add(1, 1), order(10, 0, 1, 0, 2), add(1, 1), order(12)]
        looks = [SHOWS] + [reg(r) for r in range(16)]
        for way in range(4):
            given = told(load(words, way), go(LATE), *looks, go(1), *looks, go(1000000), *looks)
            self.assertEqual(given[2:19], given[20:37])
            self.assertEqual(given[2:19], given[38:55])

    def test_the_end_is_not_done_but_its_cycle_counts(self):
        self.assertEqual(run_out([add(1), order(12)], 0), [6, 1, 0, 0])


class HandedOn(unittest.TestCase):
    def test_from_the_order_in_memory(self):
        words = [add(1, 0, 5), order(0, 2, 1, 1), order(8, 0, 2, 2, 0), order(7, 3, 0, 0, 10)]
        self.assertEqual(run_out(words, 1), [9, 4, 0, 0])
        self.assertEqual([value(words, 1, r) for r in (2, 3)], [10, 10])

    def test_from_the_order_to_be_written(self):
        words = [add(1, 0, 5), add(4), order(0, 2, 1, 1)]
        self.assertEqual(run_out(words, 1), [8, 3, 0, 0])
        self.assertEqual(value(words, 1, 2), 10)

    def test_the_nearer_first(self):
        words = [add(1, 0, 5), add(1, 0, 6), order(0, 2, 1, 1)]
        self.assertEqual(run_out(words, 1), [8, 3, 0, 0])
        self.assertEqual(value(words, 1, 2), 12)

    def test_each_register_by_itself(self):
        for words, result in (([add(1, 0, 5), add(2, 0, 70), order(1, 3, 1, 2)], -65),
                              ([add(2, 0, 70), add(1, 0, 5), order(1, 3, 1, 2)], -65),
                              ([add(2, 0, 70), add(1, 0, 5), add(1, 0, 6), order(1, 3, 1, 2)], -64)):
            self.assertEqual(value(words, 1, 3), result)

    def test_with_what_is_written_while_it_is_read(self):
        for way in range(4):
            words = [add(1, 0, 5), add(4), add(4), order(0, 2, 1, 1)]
            self.assertEqual(run_out(words, way), [9, 4, 0, 0])
            self.assertEqual(value(words, way, 2), 10)

    def test_the_next_place_of_11(self):
        words = [order(11, 1, 0, 0, 1), add(2, 1, 10), add(3, 1, 20)]
        self.assertEqual(run_out(words, 1), [8, 3, 0, 0])
        self.assertEqual([value(words, 1, r) for r in (1, 2, 3)], [1, 11, 21])

    def test_an_address_or_a_going_is_never_handed_on(self):
        for kind in (8, 9, 10, 12):
            words = [add(1, 0, 5), add(9), add(9), order(kind, 1, 0, 0, 1), order(0, 2, 1, 1)]
            self.assertEqual(value(words, 1, 2), 0 if kind == 12 else 10)

    def test_nothing_for_register_0(self):
        words = [order(6, 0, 0, 0, 5), order(6, 0, 0, 0, 6), order(0, 1, 0, 0), add(2, 0, 3)]
        for way in range(4):
            self.assertEqual(run_out(words, way), [9, 4, 0, 0])
            self.assertEqual([value(words, way, r) for r in (0, 1, 2)], [0, 0, 3])

    def test_to_a_branch(self):
        words = [add(1, 0, 5), order(9, 0, 1, 1, 2), add(2), order(10, 0, 1, 0, 2), add(2)]
        self.assertEqual(run_out(words, 1), [12, 3, 0, 4])
        self.assertEqual(value(words, 1, 2), 0)


class WaitsWithHandingOn(unittest.TestCase):
    def setUp(self):
        self.before = [add(1, 0, 44), order(8, 0, 0, 1, 7)]

    def test_one_cycle_straight_behind_7(self):
        words = self.before + [order(7, 2, 0, 0, 7), add(3, 2)]
        for way in (1, 3):
            self.assertEqual(run_out(words, way), [10, 4, 1, 0])
            self.assertEqual(value(words, way, 3), 45)

    def test_it_stays_and_nothing_is_fetched(self):
        words = [order(7, 2, 0, 0, 7), add(3, 2), add(4)]
        self.assertEqual([shown(words, 1, cycles) for cycles in (2, 3, 4, 5)], [
            [0, 1, 0, -1, -1, 2, 0, 0, 0], [0, 1, -1, 0, -1, 3, 0, 1, 0],
            [0, 2, 1, -1, 0, 4, 0, 1, 0], [0, 3, 2, 1, -1, 5, 1, 1, 0]])

    def test_not_with_one_between(self):
        words = self.before + [order(7, 2, 0, 0, 7), add(4), add(3, 2)]
        self.assertEqual(run_out(words, 1), [10, 5, 0, 0])
        self.assertEqual(value(words, 1, 3), 45)

    def test_for_either_register(self):
        for kind in (0, 1, 2, 3, 4, 5, 8, 9, 10):
            for a, b in ((2, 0), (0, 2), (2, 2)):
                words = [order(7, 2, 0, 0, 7), order(kind, 3, a, b, 1)]
                self.assertEqual(run_out(words, 1), [8, 2, 1, 0], (kind, a, b))

    def test_not_for_what_is_not_read(self):
        for word in (order(6, 3, 1, 2, 1), order(7, 3, 1, 2, 1), order(11, 3, 2, 2, 1), order(0, 2, 1, 3)):
            words = [order(7, 2, 0, 0, 7), word]
            self.assertEqual(run_out(words, 1), [7, 2, 0, 0], word)
        self.assertEqual(run_out([order(7, 2, 0, 0, 7), order(12, 0, 2, 2, 1)], 1), [6, 1, 0, 0])

    def test_not_for_register_0(self):
        self.assertEqual(run_out([order(7, 0, 0, 0, 7), order(0, 3, 0, 0)], 1), [7, 2, 0, 0])

    def test_7_behind_7(self):
        words = [add(1, 0, 9), order(8, 0, 0, 1, 5), order(8, 0, 1, 1, 0), add(1, 0, 1),
                 order(7, 2, 0, 0, 5), order(7, 3, 2, 0, 0), order(7, 4, 3, 0, 0)]
        self.assertEqual(run_out(words, 1), [14, 7, 2, 0])
        self.assertEqual([value(words, 1, r) for r in (2, 3, 4)], [9, 9, 9])

    def test_the_value_that_was_overwritten_meanwhile(self):
        words = self.before + [order(7, 2, 0, 0, 7), add(2, 0, 3), add(3, 2, 0)]
        self.assertEqual(run_out(words, 1), [10, 5, 0, 0])
        self.assertEqual(value(words, 1, 3), 3)


class WaitsWithoutHandingOn(unittest.TestCase):
    def test_two_cycles_straight_behind(self):
        for way in (0, 2):
            self.assertEqual(run_out([add(1, 0, 5), add(2, 1, 1)], way), [9, 2, 2, 0])
            self.assertEqual(value([add(1, 0, 5), add(2, 1, 1)], way, 2), 6)

    def test_cycle_by_cycle(self):
        words = [add(1, 0, 5), add(2, 1, 1)]
        self.assertEqual([shown(words, 0, cycles) for cycles in range(2, 7)], [
            [0, 1, 0, -1, -1, 2, 0, 0, 0], [0, 1, -1, 0, -1, 3, 0, 1, 0], [0, 1, -1, -1, 0, 4, 0, 2, 0],
            [0, 2, 1, -1, -1, 5, 1, 2, 0], [0, -1, 2, 1, -1, 6, 1, 2, 0]])

    def test_fewer_with_orders_between(self):
        self.assertEqual(run_out([add(1), add(9), add(2, 1)], 0), [9, 3, 1, 0])
        self.assertEqual(run_out([add(1), add(9), add(9), add(2, 1)], 0), [9, 4, 0, 0])

    def test_7_as_any_other(self):
        words = [order(7, 2, 0, 0, 7), add(3, 2)]
        self.assertEqual(run_out(words, 0), [9, 2, 2, 0])

    def test_for_either_register(self):
        for kind in (0, 1, 2, 3, 4, 5, 8, 9, 10):
            for a, b in ((2, 0), (0, 2), (2, 2)):
                words = [add(2), order(kind, 3, a, b, 1)]
                self.assertEqual(run_out(words, 0), [9, 2, 2, 0], (kind, a, b))
        for kind in (6, 7):
            self.assertEqual(run_out([add(2), order(kind, 3, 2, 0, 1)], 0), [9, 2, 2, 0])

    def test_for_each_order_that_writes(self):
        for kind in (0, 1, 2, 3, 4, 5, 6, 7, 11):
            self.assertEqual(run_out([order(kind, 2, 0, 0, 1), add(3, 2)], 0), [9, 2, 2, 0], kind)
        for kind in (8, 9, 10):
            self.assertEqual(run_out([order(kind, 2, 0, 0, 1), add(3, 2)], 0), [7, 2, 0, 0], kind)

    def test_not_for_what_is_not_read(self):
        for word in (order(6, 3, 1, 2, 1), order(7, 3, 1, 2, 1), order(11, 3, 2, 2, 1), order(0, 2, 1, 3)):
            self.assertEqual(run_out([add(2), word], 0), [7, 2, 0, 0], word)
        self.assertEqual(run_out([add(2), order(12, 0, 2, 2, 1)], 0), [6, 1, 0, 0])

    def test_not_for_register_0(self):
        self.assertEqual(run_out([order(6, 0, 0, 0, 7), order(0, 3, 0, 0)], 0), [7, 2, 0, 0])


class WrongGuesses(unittest.TestCase):
    def test_two_are_lost(self):
        words = [order(9, 0, 0, 0, 3), add(1), add(2), add(3)]
        for way in range(4):
            self.assertEqual([shown(words, way, cycles) for cycles in range(2, 6)], [
                [0, 1, 0, -1, -1, 2, 0, 0, 0], [0, -1, -1, 0, -1, 3, 0, 0, 2],
                [0, 3, -1, -1, 0, 4, 0, 0, 2], [0, 4, 3, -1, -1, 5, 1, 0, 2]])
            self.assertEqual(run_out(words, way), [9, 2, 0, 2])
            self.assertEqual([value(words, way, r) for r in (1, 2, 3)], [0, 0, 1])

    def test_two_are_lost_where_one_is_an_order_12(self):
        words = [order(9, 0, 0, 0, 3), order(12), add(2), add(3)]
        for way in range(4):
            self.assertEqual(shown(words, way, 3), [0, -1, -1, 0, -1, 3, 0, 0, 2])
            self.assertEqual(run_out(words, way), [9, 2, 0, 2])
            self.assertEqual(value(words, way, 3), 1)

    def test_two_are_lost_behind_the_program(self):
        words = [add(1, 0, 2), add(1, 1, -1), order(10, 0, 1, 0, -1)]
        self.assertEqual(shown(words, 1, 4), [0, 3, 2, 1, 0, 4, 0, 0, 0])
        self.assertEqual(shown(words, 1, 5), [0, -1, -1, 2, 1, 5, 1, 0, 2])
        self.assertEqual(run_out(words, 1), [12, 5, 0, 2])

    def test_one_is_lost_where_none_is_to_be_read(self):
        # No program comes to this: behind every order but 12 another is fetched when it is read.
        for place, lost in ((4, 1), (3, 0)):
            line = Pipeline([order(9, 0, 0, 0, 3), add(1), add(2), add(3)], 0)
            line.run(2)
            line.to_read = None
            line.place = place
            line.run(1)
            self.assertEqual(line.lost, lost)
            self.assertEqual(line.place, 3 if lost else 4)

    def test_one_that_waits_is_not_counted_when_lost(self):
        words = [add(1), order(9, 0, 0, 0, 3), add(2, 1), add(3), add(4)]
        self.assertEqual(run_out(words, 0), [10, 3, 0, 2])

    def test_no_wrong_guess_where_both_places_are_one(self):
        for kind in (9, 10):
            for way in range(4):
                self.assertEqual(run_out([order(kind, 0, 0, 0, 1), add(1)], way), [7, 2, 0, 0])

    def test_11_is_never_guessed_wrong(self):
        words = [order(11, 1, 0, 0, 2), add(2), order(11, 0, 0, 0, 3), add(3), order(12), order(11, 0, 0, 0, -1)]
        for way in range(4):
            self.assertEqual(shown(words, way, 3)[:4], [0, 5, 2, 0])
            self.assertEqual(run_out(words, way), [8, 3, 0, 0])

    def test_a_branch_that_was_lost_is_not_learned(self):
        words = [order(9, 0, 0, 0, 2), order(10, 0, 0, 0, 5), order(12)]
        line = Pipeline(words, 2)
        line.run(20)
        self.assertEqual(line.guesses, [2] + [1] * 15)

    def test_itself_for_ever(self):
        for way, lost, done in ((0, 64, 32), (1, 64, 32), (2, 2, 92), (3, 2, 92)):
            self.assertEqual(shown([order(9)], way, 98)[5:], [98, done, 0, lost])


class Guesses(unittest.TestCase):
    def loop(self, rounds):
        """Rounds of one order and a branch, which is wrong at its first and last time if it's guessed."""
        return [add(1, 0, rounds), add(1, 1, -1), order(10, 0, 1, 0, -1)]

    def guesses_after(self, words, way):
        line = Pipeline(words, way)
        line.run(LATE)
        self.assertTrue(line.ended)
        return line.guesses

    def test_not_guessed_each_going_is_wrong(self):
        for way in (0, 1):
            self.assertEqual(run_out(self.loop(6), way)[3], 10)

    def test_guessed_only_the_first_and_the_last_are_wrong(self):
        self.assertEqual(run_out(self.loop(6), 3), [22, 13, 0, 4])
        self.assertEqual(run_out(self.loop(6), 2)[3], 4)

    def test_a_guess_is_kept_from_1_to_2(self):
        self.assertEqual(self.guesses_after([order(9, 0, 0, 0, 1)], 0), [2] + [1] * 15)
        self.assertEqual(self.guesses_after([order(10, 0, 0, 0, 1)], 0), [0] + [1] * 15)

    def test_3_at_most(self):
        for way in range(4):
            for rounds, guess in ((1, 0), (2, 1), (3, 2), (4, 2), (9, 2)):
                self.assertEqual(self.guesses_after(self.loop(rounds), way)[2], guess, rounds)

    def test_0_at_least(self):
        words = [add(1, 0, 6), add(1, 1, -1), order(10, 0, 0, 0, -2), order(10, 0, 1, 0, -2)]
        for way in range(4):
            self.assertEqual(self.guesses_after(words, way)[2], 0)

    def test_from_0_it_takes_two_goings_to_be_guessed(self):
        # Place 4 does not go twice, then goes for the rest: wrong at its first two goings and not after.
        words = [add(1, 0, 7), add(5, 0, 3), add(2, 2), order(5, 3, 2, 5), order(9, 0, 3, 0, 2), add(9, 9),
                 add(1, 1, -1), order(10, 0, 1, 0, -5)]
        goings_wrong = 2 * 2
        loop_wrong = 2 * 2
        self.assertEqual(run_out(words, 3)[3], goings_wrong + loop_wrong)
        self.assertEqual(value(words, 3, 9), 2)

    def test_from_3_one_that_does_not_go_changes_no_guess(self):
        # The inner loop is guessed to go each time it begins anew but the first.
        words = [add(1, 0, 4), add(2, 0, 4), add(2, 2, -1), order(10, 0, 2, 0, -1), add(1, 1, -1),
                 order(10, 0, 1, 0, -4)]
        inner_wrong = 2 * (1 + 4)
        outer_wrong = 2 * 2
        self.assertEqual(run_out(words, 3)[3], inner_wrong + outer_wrong)

    def test_the_lowest_4_bits_of_the_place_are_shared(self):
        words = [order(9, 0, 0, 0, 1)] + [add(2)] * 15 + [order(9, 0, 0, 0, 2), add(3), add(4)]
        self.assertEqual(run_out(words, 2), [23, 18, 0, 0])
        words = [add(2)] + words
        self.assertEqual(run_out(words, 2), [24, 19, 0, 0])
        words = [order(9, 0, 0, 0, 1)] + [add(2)] * 14 + [order(9, 0, 0, 0, 2), add(3), add(4)]
        self.assertEqual(run_out(words, 2), [24, 17, 0, 2])

    def test_every_place_learns_at_its_own(self):
        for place in range(40):
            words = [add(1)] * place + [order(9, 0, 0, 0, 1)]
            for way in range(4):
                expected = [1] * 16
                expected[place % 16] = 2
                self.assertEqual(self.guesses_after(words, way), expected)

    def test_one_more_in_a_cycle_counts_from_the_next_on(self):
        # Place 0 is reckoned in cycle 3 and place 16 fetched in it, or one cycle later.
        branch, end = order(9, 0, 0, 0, 1), [order(9, 0, 0, 0, 2), add(1), add(2)]
        same_cycle = [branch, order(11, 0, 0, 0, 15)] + [order(12)] * 14 + end
        next_cycle = [branch, add(3), order(11, 0, 0, 0, 14)] + [order(12)] * 13 + end
        for way in (2, 3):
            self.assertEqual(shown(same_cycle, way, 4), [0, 17, 16, 1, 0, 4, 0, 0, 0])
            self.assertEqual(run_out(same_cycle, way), [11, 4, 0, 2])
            self.assertEqual(shown(next_cycle, way, 5), [0, 18, 16, 2, 1, 5, 1, 0, 0])
            self.assertEqual(run_out(next_cycle, way), [10, 5, 0, 0])

    def test_one_less_in_a_cycle_counts_from_the_next_on(self):
        # Place 0 makes the guess 2; place 16 is reckoned in cycle 6 and place 32 fetched in it, or one cycle later.
        start = [order(9, 0, 0, 0, 1), order(11, 0, 0, 0, 14)] + [order(12)] * 13 + [add(1), order(10, 0, 0, 0, 1)]
        end = [order(9, 0, 0, 0, 2), add(2), add(3)]
        same_cycle = start + [order(11, 0, 0, 0, 15)] + [order(12)] * 14 + end
        next_cycle = start + [add(4), order(11, 0, 0, 0, 14)] + [order(12)] * 13 + end
        for way in (2, 3):
            self.assertEqual(shown(same_cycle, way, 7), [0, 34, 32, 17, 16, 7, 3, 0, 0])
            self.assertEqual(run_out(same_cycle, way), [12, 7, 0, 0])
            self.assertEqual(shown(next_cycle, way, 8), [0, 33, 32, 18, 17, 8, 4, 0, 0])
            self.assertEqual(run_out(next_cycle, way), [15, 8, 0, 2])

    def test_learned_in_a_cycle_in_which_nothing_is_fetched(self):
        waiting = [add(1), order(9, 0, 0, 0, 1), add(2, 1)]
        wrong = [add(1), order(9, 0, 0, 0, 2), add(2)]
        behind_an_end = [add(1), order(9, 0, 0, 0, 1), order(12)]
        for way in range(4):
            for words in (waiting, wrong, behind_an_end):
                self.assertEqual(self.guesses_after(words, way), [1, 2] + [1] * 14)
        self.assertEqual(shown(waiting, 0, 4)[7], 1)

    def test_a_guess_to_go_that_is_wrong(self):
        words = [order(9, 0, 0, 0, 1)] + [add(2)] * 15 + [order(10, 0, 0, 0, 2), add(3), add(4)]
        self.assertEqual(shown(words, 2, 18), [0, 18, 16, 15, 14, 18, 14, 0, 0])
        self.assertEqual(shown(words, 2, 20), [0, 17, -1, -1, 16, 20, 16, 0, 2])
        self.assertEqual(run_out(words, 2), [26, 19, 0, 2])
        self.assertEqual([value(words, 2, r) for r in (3, 4)], [1, 1])


class Places(unittest.TestCase):
    def test_below_0(self):
        for way in range(4):
            for n in (-2, -5, -32768):
                self.assertEqual(shown([order(11, 1, 0, 0, n)], way, 2), [0, n, 0, -1, -1, 2, 0, 0, 0])
                self.assertEqual(run_out([order(11, 1, 0, 0, n)], way), [6, 1, 0, 0])
            self.assertEqual(shown([add(1), order(9, 0, 0, 0, -9)], way, 5), [0, -8, -1, -1, 1, 5, 1, 0, 2])

    def test_just_below_0_looks_like_none(self):
        self.assertEqual(shown([order(11, 0, 0, 0, -1)], 0, 2), [0, -1, 0, -1, -1, 2, 0, 0, 0])
        self.assertEqual(shown([order(11, 0, 0, 0, -1)], 0, 3), [0, -1, -1, 0, -1, 3, 0, 0, 0])
        self.assertEqual(run_out([order(11, 0, 0, 0, -1)], 0), [6, 1, 0, 0])

    def test_past_the_program(self):
        for way in range(4):
            for n in (2, 1024, 32767):
                self.assertEqual(shown([order(11, 1, 0, 0, n)], way, 2), [0, n, 0, -1, -1, 2, 0, 0, 0])
                self.assertEqual(run_out([order(11, 1, 0, 0, n)], way), [6, 1, 0, 0])
        words = [add(1)] * 1023 + [order(11, 2, 0, 0, 32767)]
        self.assertEqual(told(load(words, 1), go(1025), SHOWS, go(9), reg(2))[2:], [
            [0, 33790, 1023, 1022, 1021, 1025, 1021, 0, 0], [1], [0, 1024]])

    def test_an_order_12_outside_that_is_lost(self):
        words = [order(9, 0, 0, 0, 1)] + [add(1)] * 15 + [order(10, 0, 0, 0, -20), add(3)]
        self.assertEqual(shown(words, 2, 18)[:3], [0, -4, 16])
        self.assertEqual(run_out(words, 2), [25, 18, 0, 2])
        self.assertEqual(value(words, 2, 3), 1)


if __name__ == "__main__":
    unittest.main()

import copy
import itertools
import math
import random
import unittest

from grooveway.weights import bears, most_signs, press, rounds, shrunk, verdict
from helpers import lists_in, plain

SIXTY = 10 ** 59
# Where weights that bear n = 3 are as far apart as 1 and 3; for 4 there is a press.
SLANTED = [[0, 9], [1, 0]]
# Two parts that don't hang together.
APART = [[2, 0, 0], [0, 1, 2], [0, 3, 0]]
FALLING = [[0, 1, 5], [0, 0, 2], [0, 0, 0]]


def random_tables(seed, many, high):
    source = random.Random(seed)
    for again in range(many):
        size = source.randint(1, 5)
        choices = [0] * high + list(range(high + 1))
        yield [[source.choice(choices) for column in range(size)] for row in range(size)]


def greatest_sum(table):
    return max(sum(numbers) for numbers in table)


def left_in_columns(table, n, numbers):
    return [n * numbers[column] - sum(row[column] * number for row, number in zip(table, numbers))
            for column in range(len(table))]


def is_press(table, n, numbers):
    left = left_in_columns(table, n, numbers)
    return (min(numbers) > 0 and len(set(left)) == 1 and left[0] > 0 and math.gcd(left[0], *numbers) == 1)


def weights_that_bear(table, n, most):
    """Whether some weights up to the most bear the wish that aren't all noughts, found by going through them."""
    for weights in itertools.product(range(most + 1), repeat=len(table)):
        sums = [sum(number * weight for number, weight in zip(numbers, weights)) for numbers in table]
        if any(weights) and all(total >= n * weight for total, weight in zip(sums, weights)):
            return True
    return False


def shrink(table, n, weights):
    sums = [sum(number * weight for number, weight in zip(numbers, weights)) for numbers in table]
    return [min(weight, total // n) for total, weight in zip(sums, weights)]


def settled(table, n, weights):
    after = shrink(table, n, weights)
    while after != weights:
        weights, after = after, shrink(table, n, after)
    return weights


class PressTest(unittest.TestCase):
    def test_small_ones(self):
        self.assertEqual(press([[1]], 2), [1])
        self.assertEqual(press([[0]], 3), [1])
        self.assertEqual(press([[3]], 5), [1])
        self.assertIsNone(press([[2]], 2))
        self.assertEqual(press([[1, 1], [1, 0]], 2), [3, 2])
        self.assertIsNone(press([[1, 1], [1, 0]], 1))
        self.assertEqual(press(SLANTED, 4), [5, 13])
        self.assertIsNone(press(SLANTED, 3))

    def test_columns_not_rows_are_gone_by(self):
        self.assertEqual(press([[0, 2], [0, 0]], 1), [1, 3])
        self.assertEqual(press([[0, 0], [2, 0]], 1), [3, 1])

    def test_what_divides_all_is_taken_out(self):
        self.assertEqual(press([[1, 0], [0, 1]], 3), [1, 1])
        self.assertEqual(press([[1, 0], [0, 2]], 4), [2, 3])
        self.assertEqual(press([[2, 2], [2, 2]], 8), [1, 1])

    def test_held_against_the_point(self):
        both = [0, 0]
        for table in random_tables(1, 300, 3):
            high = greatest_sum(table)
            for n in range(1, high + 3):
                numbers = press(table, n)
                both[numbers is None] += 1
                if numbers is not None:
                    self.assertTrue(plain(numbers) and type(numbers) is list and len(numbers) == len(table))
                    self.assertTrue(is_press(table, n, numbers), (table, n, numbers))
                else:
                    # Where there is no press some weights bear the wish; great ones may be asked for.
                    self.assertTrue(any(settled(table, n, [4 ** 7] * len(table))), (table, n))
        self.assertGreater(min(both), 200)

    def test_where_there_is_a_press_only_noughts_bear_the_wish(self):
        for table in random_tables(2, 40, 2):
            if len(table) <= 3:
                for n in range(1, greatest_sum(table) + 2):
                    if press(table, n) is not None:
                        self.assertFalse(weights_that_bear(table, n, 4), (table, n))

    def test_n_at_the_greatest_sum_of_a_row_below_it_and_above_it(self):
        even = [[2, 1], [1, 2]]
        self.assertIsNone(press(even, 2))
        self.assertIsNone(press(even, 3))
        self.assertEqual(press(even, 4), [1, 1])
        uneven = [[2, 1], [1, 0]]
        self.assertIsNone(press(uneven, 2))
        self.assertEqual(press(uneven, 3), [2, 1])
        self.assertTrue(is_press(uneven, 4, press(uneven, 4)))
        for table in random_tables(3, 40, 4):
            self.assertIsNotNone(press(table, greatest_sum(table) + 1))

    def test_numbers_of_sixty_figures(self):
        table = [[SIXTY, 7], [SIXTY - 3, 0]]
        for n in (SIXTY + 6, SIXTY + 7, SIXTY + 8, 2 * SIXTY):
            numbers = press(table, n)
            self.assertTrue(numbers is None or is_press(table, n, numbers))
        self.assertIsNone(press(table, SIXTY))
        self.assertIsNotNone(press(table, SIXTY + 8))

    def test_the_table_is_not_changed(self):
        table = copy.deepcopy(APART)
        for n in (1, 2, 3, 4):
            press(table, n)
            most_signs(table)
            verdict(table, n)
        self.assertEqual(table, APART)


class MostSignsTest(unittest.TestCase):
    def test_a_press_for_each(self):
        for table in ([[0]], FALLING, [[0, 0], [7, 0]], [[0, SIXTY], [0, 0]]):
            self.assertEqual(most_signs(table), 0)

    def test_the_greatest_sum_of_a_row(self):
        for table, told in (([[1]], 1), ([[5]], 5), ([[2, 1], [1, 2]], 3), ([[0, 4], [4, 0]], 4), ([[3, 1], [0, 4]], 4)):
            self.assertEqual(most_signs(table), told)

    def test_below_the_greatest_sum(self):
        for table, told in ((SLANTED, 3), ([[1, 1], [1, 0]], 1), ([[0, 8], [1, 0]], 2), ([[0, 100], [0, 2]], 2)):
            self.assertEqual(most_signs(table), told)

    def test_parts_that_do_not_hang_together(self):
        self.assertEqual(most_signs(APART), 3)
        self.assertEqual(most_signs([[2, 0], [0, 5]]), 5)
        self.assertEqual(most_signs([[5, 9], [0, 2]]), 5)
        self.assertEqual(most_signs([[0, 9, 0], [0, 0, 0], [0, 0, 1]]), 1)

    def test_numbers_of_sixty_figures(self):
        self.assertEqual(most_signs([[SIXTY]]), SIXTY)
        self.assertEqual(most_signs([[0, SIXTY], [SIXTY, 0]]), SIXTY)
        self.assertEqual(most_signs([[0, SIXTY * SIXTY], [1, 0]]), SIXTY)
        self.assertEqual(most_signs([[0, SIXTY * SIXTY - 1], [1, 0]]), SIXTY - 1)
        self.assertEqual(most_signs([[1, 0, 0], [0, SIXTY, 3], [0, 0, SIXTY + 1]]), SIXTY + 1)
        source = random.Random(5)
        for size in (2, 3, 5, 8):
            table = [[source.randrange(10 ** 60) for column in range(size)] for row in range(size)]
            most = most_signs(table)
            self.assertIsNone(press(table, most))
            self.assertIsNotNone(press(table, most + 1))
            self.assertEqual(type(most), int)

    def test_held_against_the_presses(self):
        for table in random_tables(6, 200, 3):
            without = [n for n in range(1, greatest_sum(table) + 2) if press(table, n) is None]
            self.assertEqual(most_signs(table), max(without, default=0))
            self.assertEqual(without, list(range(1, len(without) + 1)))


class BearsTest(unittest.TestCase):
    def test_weights_that_bear_and_that_do_not(self):
        self.assertIs(bears(SLANTED, 3, [3, 1]), True)
        self.assertIs(bears(SLANTED, 3, [1, 1]), False)
        self.assertIs(bears(SLANTED, 3, [1, 3]), False)
        self.assertIs(bears(SLANTED, 2, [2, 1]), True)
        self.assertIs(bears([[1, 1], [1, 0]], 1, [1, 1]), True)
        self.assertIs(bears([[1, 1], [1, 0]], 2, [1, 1]), False)

    def test_noughts(self):
        for n in (1, 2, 99):
            self.assertIs(bears(SLANTED, n, [0, 0]), True)
        self.assertIs(bears(APART, 2, [1, 0, 0]), True)
        self.assertIs(bears(APART, 3, [1, 0, 0]), False)

    def test_at_the_edge_and_one_below_it(self):
        self.assertIs(bears([[5]], 5, [3]), True)
        self.assertIs(bears([[5]], 6, [3]), False)
        self.assertIs(bears([[2, 1], [0, 3]], 3, [2, 2]), True)
        self.assertIs(bears([[2, 1], [0, 3]], 3, [2, 1]), False)


class ShrunkTest(unittest.TestCase):
    def test_all_at_the_same_time(self):
        # The second is shrunk by the first as it was, not as it became.
        self.assertEqual(shrunk([[0, 1], [1, 0]], 2, [4, 8]), [4, 2])
        self.assertEqual(shrunk([[0, 1, 0], [0, 0, 1], [1, 0, 0]], 2, [8, 8, 8]), [4, 4, 4])
        self.assertEqual(shrunk(SLANTED, 3, [8, 8]), [8, 2])

    def test_nothing_grows_and_all_is_rounded_down(self):
        self.assertEqual(shrunk([[9]], 2, [5]), [5])
        self.assertEqual(shrunk([[1, 1], [1, 1]], 3, [7, 4]), [3, 3])
        self.assertEqual(shrunk([[0]], 1, [7]), [0])
        self.assertEqual(shrunk(FALLING, 1, [0, 0, 0]), [0, 0, 0])

    def test_weights_that_bear_stay(self):
        self.assertEqual(shrunk(SLANTED, 3, [3, 1]), [3, 1])

    def test_held_against_the_point(self):
        source = random.Random(8)
        for table in random_tables(9, 100, 3):
            weights = [source.randint(0, 9) for row in table]
            for n in (1, 2, 3):
                before = list(weights)
                told = shrunk(table, n, weights)
                self.assertEqual(told, shrink(table, n, before))
                self.assertEqual(weights, before)
                self.assertTrue(type(told) is list and plain(told))
                self.assertIsNot(told, weights)
                self.assertEqual(bears(table, n, weights), told == before)


class RoundsTest(unittest.TestCase):
    def test_from_the_weights_at_first_on(self):
        self.assertEqual(rounds(SLANTED, 3, [8, 8]), [[8, 8], [8, 2], [6, 2]])
        self.assertEqual(rounds(SLANTED, 3, [3, 1]), [[3, 1]])
        self.assertEqual(rounds([[1]], 2, [8]), [[8], [4], [2], [1], [0]])
        self.assertEqual(rounds(FALLING, 1, [0, 0, 0]), [[0, 0, 0]])

    def test_none_twice_the_last_one_bears_and_nothing_greater_does(self):
        source = random.Random(10)
        for table in random_tables(4, 60, 3):
            for n in (1, 2, 3):
                weights = [source.randint(0, 3) for row in table]
                before = list(weights)
                told = rounds(table, n, weights)
                self.assertEqual(weights, before)
                self.assertEqual(told[0], before)
                self.assertEqual(len({tuple(each) for each in told}), len(told))
                self.assertEqual(told[1:], [shrink(table, n, each) for each in told[:-1]])
                self.assertTrue(bears(table, n, told[-1]))
                if len(table) <= 3:
                    borne = [w for w in itertools.product(*[range(high + 1) for high in weights]) if bears(table, n, w)]
                    self.assertEqual(told[-1], [max(w[place] for w in borne) for place in range(len(table))])

    def test_no_two_lists_are_one_and_all_are_the_askers_own(self):
        weights = [8, 8]
        told = rounds(SLANTED, 3, weights)
        found = lists_in(told)
        self.assertEqual(len(set(found)), 4)
        self.assertNotIn(id(weights), found)
        told[0][0] = 99
        self.assertEqual(weights, [8, 8])
        one = rounds(SLANTED, 3, [3, 1])
        self.assertEqual(one, [[3, 1]])


class VerdictTest(unittest.TestCase):
    def test_press(self):
        self.assertEqual(verdict(SLANTED, 4), ("press", [5, 13]))
        self.assertEqual(verdict([[0]], 1), ("press", [1]))

    def test_weights_of_the_least_beginning_that_does_it(self):
        self.assertEqual(verdict([[2, 1], [1, 2]], 3), ("weights", [1, 1]))
        # From 1 and from 2 they come to noughts, from 4 on they don't.
        self.assertEqual(verdict(SLANTED, 3), ("weights", [3, 1]))
        self.assertEqual(verdict(SLANTED, 3, 4), ("weights", [3, 1]))
        self.assertEqual(verdict(SLANTED, 2), ("weights", [2, 1]))
        self.assertEqual(verdict([[0, 100], [1, 0]], 10), ("weights", [10, 1]))
        self.assertEqual(verdict(APART, 2), ("weights", [1, 1, 1]))
        self.assertEqual(verdict([[2, 0], [0, 1]], 2), ("weights", [1, 0]))

    def test_close_with_its_rounds_down_to_noughts(self):
        self.assertEqual(verdict(SLANTED, 3, 2), ("close", [[2, 2], [2, 0], [0, 0]]))
        self.assertEqual(verdict(SLANTED, 3, 3), ("close", [[2, 2], [2, 0], [0, 0]]))
        self.assertEqual(verdict(SLANTED, 3, 1), ("close", [[1, 1], [1, 0], [0, 0]]))

    def test_a_most_that_is_no_power_of_two(self):
        table = [[0, 25], [1, 0]]
        self.assertEqual(verdict(table, 5, 7)[0], "close")
        self.assertEqual(verdict(table, 5, 7)[1][0], [4, 4])
        self.assertEqual(verdict(table, 5, 8), ("weights", [5, 1]))
        self.assertEqual(verdict(table, 5, 9), ("weights", [5, 1]))

    def test_the_most_left_out_is_sixteen(self):
        self.assertEqual(verdict([[0, 256], [1, 0]], 16), ("weights", [16, 1]))
        kind, told = verdict([[0, 289], [1, 0]], 17)
        self.assertEqual((kind, told[0], told[-1]), ("close", [16, 16], [0, 0]))
        self.assertEqual(verdict([[0, 289], [1, 0]], 17, 31)[0], "close")
        self.assertEqual(verdict([[0, 289], [1, 0]], 17, 32), ("weights", [17, 1]))

    def test_held_against_the_point(self):
        kinds = []
        for table in random_tables(13, 300, 4):
            for n in (1, 2, 3, 4):
                for most in (1, 2, 3, 5):
                    told = verdict(table, n, most)
                    self.assertEqual(told, self.verdict_of(table, n, most))
                    self.assertIs(type(told), tuple)
                    self.assertTrue(plain(told))
                    self.assertEqual(len(set(lists_in(told))), len(lists_in(told)))
                    kinds.append(told[0])
        self.assertEqual(set(kinds), {"press", "weights", "close"})

    def verdict_of(self, table, n, most):
        numbers = press(table, n)
        if numbers is not None:
            return ("press", numbers)
        m = 1
        while True:
            weights = settled(table, n, [m] * len(table))
            if any(weights):
                return ("weights", weights)
            if 2 * m > most:
                break
            m = 2 * m
        told = [[m] * len(table)]
        while any(told[-1]):
            told.append(shrink(table, n, told[-1]))
        return ("close", told)


if __name__ == "__main__":
    unittest.main()

import copy
import random
import unittest
from fractions import Fraction

from grooveway.solve import reduced, solved

SIXTY = 10 ** 59


def put_in(table, found):
    """What each row comes to with these fractions."""
    return [sum(number * Fraction(*part) for number, part in zip(numbers, found)) for numbers in table]


def determinant(table):
    if not table:
        return 1
    return sum((-1) ** place * table[0][place] * determinant([row[:place] + row[place + 1:] for row in table[1:]])
               for place in range(len(table)))


class ReducedTest(unittest.TestCase):
    def test_small_ones(self):
        for a, b, told in ((6, 4, (3, 2)), (4, 6, (2, 3)), (8, 4, (2, 1)), (5, 1, (5, 1)), (1, 5, (1, 5)), (7, 7, (1, 1))):
            self.assertEqual(reduced(a, b), told)

    def test_nought(self):
        for b in (1, 9, -1, -9, 10 ** 60):
            self.assertEqual(reduced(0, b), (0, 1))

    def test_signs(self):
        self.assertEqual([reduced(6, -4), reduced(-6, 4), reduced(-6, -4)], [(-3, 2), (-3, 2), (3, 2)])
        self.assertEqual([reduced(1, -1), reduced(-1, -1), reduced(-7, 1)], [(-1, 1), (1, 1), (-7, 1)])

    def test_numbers_of_sixty_figures(self):
        self.assertEqual(reduced(SIXTY * 6, SIXTY * -4), (-3, 2))
        self.assertEqual(reduced(SIXTY + 1, SIXTY), (SIXTY + 1, SIXTY))
        self.assertEqual(reduced(SIXTY, -1), (-SIXTY, 1))

    def test_held_against_fractions(self):
        for a in range(-30, 31):
            for b in list(range(-30, 0)) + list(range(1, 31)):
                whole = Fraction(a, b)
                told = reduced(a, b)
                self.assertEqual(told, (whole.numerator, whole.denominator))
                self.assertEqual((type(told), type(told[0]), type(told[1])), (tuple, int, int))


class SolvedTest(unittest.TestCase):
    def test_one_row(self):
        self.assertEqual(solved([[2]], [3]), [(3, 2)])
        self.assertEqual(solved([[-4]], [6]), [(-3, 2)])
        self.assertEqual(solved([[5]], [0]), [(0, 1)])
        self.assertIsNone(solved([[0]], [0]))
        self.assertIsNone(solved([[0]], [1]))

    def test_several_rows(self):
        self.assertEqual(solved([[1, 1], [1, -1]], [3, 2]), [(5, 2), (1, 2)])
        self.assertEqual(solved([[2, 1, 0], [0, 3, 1], [1, 0, 4]], [3, 4, 5]), [(1, 1), (1, 1), (1, 1)])

    def test_noughts_where_a_row_is_taken_from_further_down(self):
        self.assertEqual(solved([[0, 1], [1, 0]], [2, 3]), [(3, 1), (2, 1)])
        self.assertEqual(solved([[0, 0, 2], [0, 3, 1], [5, 1, 1]], [2, 4, 7]), [(1, 1), (1, 1), (1, 1)])
        self.assertEqual(solved([[1, 1, 1], [1, 1, 2], [1, 2, 1]], [6, 9, 8]), [(1, 1), (2, 1), (3, 1)])

    def test_no_solution_and_more_than_one(self):
        self.assertIsNone(solved([[1, 2], [2, 4]], [1, 3]))
        self.assertIsNone(solved([[1, 2], [2, 4]], [1, 2]))
        self.assertIsNone(solved([[0, 0], [0, 1]], [0, 1]))
        self.assertIsNone(solved([[1, 2, 3], [4, 5, 6], [7, 8, 9]], [1, 2, 3]))
        self.assertIsNone(solved([[1, 2, 3], [4, 5, 6], [7, 8, 9]], [1, 2, 4]))

    def test_numbers_of_sixty_figures(self):
        table = [[SIXTY + 1, -SIXTY], [3 * SIXTY, SIXTY + 7]]
        found = solved(table, [SIXTY, -5])
        self.assertEqual(put_in(table, found), [SIXTY, -5])

    def test_each_solution_put_in_again(self):
        source = random.Random(11)
        nones = 0
        for many in (1, 2, 3, 4, 5):
            for high in (1, 3, 1000):
                for again in range(30):
                    table = [[source.randint(-high, high) for column in range(many)] for row in range(many)]
                    right = [source.randint(-high, high) for row in range(many)]
                    found = solved(table, right)
                    if determinant(table) == 0:
                        nones += 1
                        self.assertIsNone(found)
                        continue
                    self.assertIs(type(found), list)
                    self.assertEqual(len(found), many)
                    self.assertEqual(put_in(table, found), right)
                    for part in found:
                        whole = Fraction(*part)
                        self.assertEqual(part, (whole.numerator, whole.denominator))
        self.assertGreater(nones, 20)

    def test_many_rows(self):
        source = random.Random(12)
        table = [[source.randint(-9, 9) for column in range(40)] for row in range(40)]
        right = [source.randint(-9, 9) for row in range(40)]
        self.assertEqual(put_in(table, solved(table, right)), right)

    def test_table_and_right_side_are_not_changed(self):
        for table, right in (([[0, 1], [2, 3]], [4, 5]), ([[1, 2], [2, 4]], [1, 2])):
            before = copy.deepcopy((table, right))
            solved(table, right)
            self.assertEqual((table, right), before)


if __name__ == "__main__":
    unittest.main()

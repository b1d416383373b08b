import itertools
import math
import unittest

from tests.helper import (
    AsIfForTheFirstTime, HIGHEST_SMALL, LOWEST_SMALL, determinant_by_first_row, diagonal, is_normal, joined,
    made_up_numbers, minors, multiples_in_normal, out_of_range, product, rank_by_minors, split)
from wholetables.tables import normal


class TestReference(unittest.TestCase):
    """The reference is itself held against tables worked out by hand."""

    def test_normal(self):
        for rows in ([], [[1]], [[2, 0], [0, 3]], [[2, 2], [0, 3]], [[0, 1, -7]], [[1, 0, 5], [0, 1, 4]],
                     [[3, 1, 9, 0], [0, 0, 0, 1]]):
            self.assertTrue(is_normal(rows), rows)

    def test_not_normal(self):
        for rows in ([[0]], [[-1]], [[0, 0], [0, 1]], [[1, 0], [0, 0]], [[0, 1], [1, 0]], [[1, 0], [1, 1]],
                     [[2, 3], [0, 3]], [[2, -1], [0, 3]], [[1, 1], [0, 1]], [[1, 0], [0, -1]]):
            self.assertFalse(is_normal(rows), rows)

    def test_multiples(self):
        self.assertEqual(multiples_in_normal([[2, 1], [0, 3]], [4, -4]), [2, -2])
        self.assertIsNone(multiples_in_normal([[2, 1], [0, 3]], [4, -3]))
        self.assertIsNone(multiples_in_normal([[2, 1], [0, 3]], [1, 0]))
        self.assertIsNone(multiples_in_normal([[2, 1]], [2, 2]))
        self.assertEqual(multiples_in_normal([], [0, 0]), [])
        self.assertIsNone(multiples_in_normal([], [0, 1]))


class NormalCase(unittest.TestCase):
    def check(self, rows, columns, table):
        """Hold an answer against the document's words; give back its table, as a list of rows."""
        told = (rows, columns, table)
        answer = normal(rows, columns, table)
        found = split(columns, answer[1:])
        self.assertEqual(answer[0], rank_by_minors(rows, columns, table), told)
        self.assertEqual(len(answer), 1 + answer[0] * columns, told)
        self.assertTrue(is_normal(found), told)
        multiples = [multiples_in_normal(found, row) for row in split(columns, table)]
        self.assertNotIn(None, multiples, told)
        # The table is these multiples times the answer. It makes the answer's rows just where the multiples can be
        # turned back by whole numbers: where their k-minors, k being the rank, have no common divisor above 1.
        turned_back = minors(rows, answer[0], joined(multiples))[answer[0]]
        self.assertEqual(math.gcd(*turned_back), 1, told)
        return found


class TestOrdinary(NormalCase):
    def test_written_out(self):
        self.assertEqual(normal(2, 2, [2, 0, 0, 3]), [2, 2, 0, 0, 3])
        self.assertEqual(normal(2, 2, [4, 1, 6, 0]), [2, 2, 2, 0, 3])
        self.assertEqual(normal(1, 2, [-2, 3]), [1, 2, -3])
        self.assertEqual(normal(2, 2, [0, 3, 2, 0]), [2, 2, 0, 0, 3])
        self.assertEqual(normal(2, 1, [6, 10]), [1, 2])
        self.assertEqual(normal(2, 3, [1, 2, 3, 4, 5, 6]), [2, 1, 2, 3, 0, 3, 6])
        self.assertEqual(normal(3, 2, [1, 2, 3, 4, 5, 6]), [2, 1, 0, 0, 2])

    def test_all_small_tables_of_two(self):
        for table in itertools.product(range(-4, 5), repeat=4):
            self.check(2, 2, list(table))

    def test_all_small_tables_of_two_and_three(self):
        for table in itertools.product((-2, 0, 1, 3), repeat=6):
            self.check(2, 3, list(table))
            self.check(3, 2, list(table))

    def test_made_up_tables_of_each_shape(self):
        for rows, columns in itertools.product(range(1, 6), repeat=2):
            for high in (1, 3, 30, 32767):
                for seed in range(5):
                    self.check(rows, columns, made_up_numbers(100 * rows + 10 * columns + seed, rows * columns,
                                                              -high, high))

    def test_made_up_tables_of_each_shape_and_rank(self):
        for rows, columns in itertools.product(range(2, 7), repeat=2):
            for inner in range(1, min(rows, columns)):
                left = [made_up_numbers(100 * rows + inner + i, inner, -9, 9) for i in range(rows)]
                right = [made_up_numbers(77 * columns + inner + i, columns, -9, 9) for i in range(inner)]
                self.check(rows, columns, joined(product(left, right)))

    def test_numbers_below_zero_only(self):
        for rows, columns in ((1, 4), (4, 1), (2, 5), (5, 2), (4, 4)):
            self.check(rows, columns, made_up_numbers(rows, rows * columns, -50, -1))

    def test_every_table_that_makes_the_same_rows_has_the_same_answer(self):
        for seed in range(5):
            rows = [made_up_numbers(10 * seed + i, 4, -20, 20) for i in range(4)]
            expected = normal(4, 4, joined(rows))
            for order in itertools.permutations(range(4)):
                mixed = [rows[i] for i in order]
                self.assertEqual(normal(4, 4, joined(mixed)), expected)
                mixed[0] = [a - 3 * b + 2 * c for a, b, c in zip(*mixed[:3])]
                mixed[3] = [-a for a in mixed[3]]
                self.assertEqual(normal(4, 4, joined(mixed)), expected)

    def test_a_normal_table_is_its_own_answer(self):
        for table in ([2, 1, 0, 3], [1, 0, 0, 1], [5, 4, 0, 9]):
            self.assertEqual(normal(2, 2, table), [2] + table)
        self.assertEqual(normal(2, 4, [3, -9, 1, 7, 0, 0, 2, -5]), [2, 3, -9, 1, 7, 0, 0, 2, -5])


class TestZeros(NormalCase):
    def test_nothing_but_zero(self):
        for rows, columns in itertools.product(range(1, 9), repeat=2):
            self.assertEqual(normal(rows, columns, [0] * (rows * columns)), [0])

    def test_a_row_of_zero(self):
        for rows, columns in ((4, 4), (5, 3), (3, 5)):
            for place in range(rows):
                table = made_up_numbers(place, rows * columns, -50, 50)
                without = table[:place * columns] + table[(place + 1) * columns:]
                table[place * columns:(place + 1) * columns] = [0] * columns
                self.check(rows, columns, table)
                self.assertEqual(normal(rows, columns, table), normal(rows - 1, columns, without))

    def test_columns_of_zero(self):
        for rows, columns in ((4, 4), (5, 3), (3, 5)):
            for one, other in itertools.product(range(columns), repeat=2):
                table = made_up_numbers(one, rows * columns, -50, 50)
                table[one::columns] = [0] * rows
                table[other::columns] = [0] * rows
                for row in self.check(rows, columns, table):
                    self.assertEqual((row[one], row[other]), (0, 0))

    def test_a_single_number(self):
        for rows, columns in ((1, 8), (8, 1), (3, 4), (8, 8)):
            for place in range(rows * columns):
                table = [0] * (rows * columns)
                table[place] = -3
                expected = [0] * columns
                expected[place % columns] = 3
                self.assertEqual(normal(rows, columns, table), [1] + expected)

    def test_a_column_passed_over(self):
        self.assertEqual(normal(2, 3, [0, 2, 1, 0, 4, 5]), [2, 0, 2, 1, 0, 0, 3])
        self.assertEqual(normal(2, 3, [2, 4, 1, 2, 4, 4]), [2, 2, 4, 1, 0, 0, 3])


class TestRowsThatOthersMake(NormalCase):
    def test_two_rows_the_same(self):
        self.assertEqual(normal(2, 2, [2, 4, 2, 4]), [1, 2, 4])
        for one, other in itertools.combinations(range(4), 2):
            rows = [made_up_numbers(one + 10 * other + i, 5, -50, 50) for i in range(4)]
            rows[other] = list(rows[one])
            self.check(4, 5, joined(rows))

    def test_a_sum_of_multiples_changes_nothing(self):
        for place in range(4):
            rows = [made_up_numbers(10 * place + i, 4, -50, 50) for i in range(3)]
            expected = normal(3, 4, joined(rows))
            rows.insert(place, product([[3, -7, 2]], rows)[0])
            self.check(4, 4, joined(rows))
            self.assertEqual(normal(4, 4, joined(rows))[1:], expected[1:])

    def test_a_sum_of_multiples_with_fractions(self):
        self.assertEqual(normal(2, 3, [4, 6, -10, 6, 9, -15]), [1, 2, 3, -5])
        self.assertEqual(normal(2, 2, [2, 4, 3, 6]), [1, 1, 2])


class TestAboveAFirstNumber(NormalCase):
    def test_below_zero(self):
        self.assertEqual(normal(2, 2, [3, -5, 0, 2]), [2, 3, 1, 0, 2])
        self.assertEqual(normal(2, 2, [3, -1, 0, 7]), [2, 3, 6, 0, 7])

    def test_no_multiple(self):
        self.assertEqual(normal(2, 2, [1, 7, 0, 5]), [2, 1, 2, 0, 5])
        self.assertEqual(normal(2, 2, [1, 5, 0, -5]), [2, 1, 0, 0, 5])
        self.assertEqual(normal(2, 2, [-1, 7, 0, -5]), [2, 1, 3, 0, 5])

    def test_a_number_that_is_lessened_twice(self):
        # The 8 goes down by the second row, which pulls the number behind it out of its range again.
        self.assertEqual(normal(3, 3, [9, 8, 0, 0, 3, 4, 0, 0, 5]), [3, 9, 2, 2, 0, 3, 4, 0, 0, 5])

    def test_numbers_that_no_row_below_leads_at_stay(self):
        self.assertEqual(normal(2, 3, [1, -9, -8, 0, 0, 3]), [2, 1, -9, 1, 0, 0, 3])


class TestEdges(NormalCase):
    def test_one_number(self):
        self.assertEqual(normal(1, 1, [LOWEST_SMALL]), [1, 32768])
        self.assertEqual(normal(1, 1, [HIGHEST_SMALL]), [1, 32767])
        self.assertEqual(normal(1, 1, [0]), [0])

    def test_one_row_and_one_column(self):
        for count in range(1, 9):
            numbers = made_up_numbers(count, count, LOWEST_SMALL, HIGHEST_SMALL)
            sign = 1 if numbers[0] > 0 else -1
            self.assertEqual(normal(1, count, numbers), [1] + [sign * number for number in numbers])
            self.assertEqual(normal(count, 1, numbers), [1, math.gcd(*numbers)])
            self.assertEqual(normal(count, 1, [6 * number for number in range(count, 0, -1)]), [1, 6])

    def test_each_shape_in_range_is_answered(self):
        for rows, columns in itertools.product(range(1, 9), repeat=2):
            small = min(rows, columns)
            table = [2 if i == j else 0 for i in range(rows) for j in range(columns)]
            self.assertEqual(normal(rows, columns, table), [small] + table[:small * columns])

    def test_lowest_and_highest(self):
        self.assertEqual(normal(2, 2, [LOWEST_SMALL, HIGHEST_SMALL] * 2), [1, 32768, -32767])
        self.assertEqual(normal(2, 2, [LOWEST_SMALL, HIGHEST_SMALL, HIGHEST_SMALL, LOWEST_SMALL]), [2, 1, 1, 0, 65535])
        for rows, columns in ((2, 3), (3, 2), (4, 4), (5, 6), (6, 5)):
            for seed in range(4):
                choices = made_up_numbers(seed, rows * columns, 0, 1)
                self.check(rows, columns, [HIGHEST_SMALL if choice else LOWEST_SMALL for choice in choices])

    def test_eight_on_the_diagonal(self):
        self.assertEqual(normal(8, 8, diagonal([LOWEST_SMALL, HIGHEST_SMALL] * 4)),
                         [8] + diagonal([32768, 32767] * 4))

    def test_eight_full(self):
        for seed in range(3):
            table = made_up_numbers(seed, 64, LOWEST_SMALL, HIGHEST_SMALL)
            found = self.check(8, 8, table)
            self.assertGreater(max(joined(found)), 1 << 100)
            self.assertEqual(math.prod(found[i][i] for i in range(8)), abs(determinant_by_first_row(8, table)))

    def test_eight_full_of_lowest_and_highest(self):
        for seed in range(3):
            choices = made_up_numbers(seed, 64, 0, 1)
            self.check(8, 8, [HIGHEST_SMALL if choice else LOWEST_SMALL for choice in choices])

    def test_eight_full_of_each_smaller_rank(self):
        for inner in range(1, 8):
            left = [made_up_numbers(inner + 50 * i, inner, -60, 60) for i in range(8)]
            right = [made_up_numbers(inner + 70 * i, 8, -60, 60) for i in range(inner)]
            self.assertEqual(len(self.check(8, 8, joined(product(left, right)))), inner)

    def test_eight_rows_or_eight_columns(self):
        for other in (2, 3, 5, 7):
            self.check(8, other, made_up_numbers(other, 8 * other, LOWEST_SMALL, HIGHEST_SMALL))
            self.check(other, 8, made_up_numbers(other, 8 * other, LOWEST_SMALL, HIGHEST_SMALL))


class TestRefusals(unittest.TestCase):
    def test_rows_or_columns_out_of_range(self):
        for rows, columns in out_of_range(2, 8):
            self.assertEqual(normal(rows, columns, []), [-2], (rows, columns))


class TestAsIfForTheFirstTime(AsIfForTheFirstTime, unittest.TestCase):
    call = staticmethod(normal)
    calls = [(n, 9 - n, made_up_numbers(n, n * (9 - n), LOWEST_SMALL, HIGHEST_SMALL)) for n in range(1, 9)] + [
        (n, n, made_up_numbers(n, n * n, -high, high)) for n in range(1, 9) for high in (1, 32767)] + [
        (0, 1, []), (1, 9, []), (1, 1, [0]), (1, 1, [1]), (1, 2, [3, -1]), (2, 2, [0, 7, 1, 3]), (2, 2, [-3, 5, 0, -2]),
        (8, 8, [0] * 64)]


if __name__ == "__main__":
    unittest.main()

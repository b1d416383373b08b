import itertools
import unittest

from tests.helper import (
    AsIfForTheFirstTime, HIGHEST, LOWEST, determinant_by_first_row, diagonal, joined, made_up_numbers, minors,
    out_of_range, product, rank_by_minors)
from wholetables.tables import rank


class TestReference(unittest.TestCase):
    """The reference is itself held against minors worked out by hand."""

    def test_by_hand(self):
        self.assertEqual(minors(1, 2, [3, -4]), [[1], [3, -4]])
        self.assertEqual(minors(2, 2, [1, 2, 3, 4]), [[1], [1, 2, 3, 4], [-2]])
        self.assertEqual(minors(2, 3, [1, 2, 3, 4, 5, 6]), [[1], [1, 2, 3, 4, 5, 6], [-3, -6, -3]])
        self.assertEqual(minors(3, 3, [2, 0, 1, 1, 3, 2, 1, 1, 4])[3], [18])
        self.assertEqual(rank_by_minors(2, 2, [0, 0, 0, 0]), 0)
        self.assertEqual(rank_by_minors(2, 2, [1, 2, 2, 4]), 1)
        self.assertEqual(rank_by_minors(2, 2, [1, 2, 2, 5]), 2)


class RankCase(unittest.TestCase):
    def check(self, rows, columns, table):
        self.assertEqual(rank(rows, columns, table), [rank_by_minors(rows, columns, table)], (rows, columns, table))


class TestOrdinary(RankCase):
    def test_written_out(self):
        self.assertEqual(rank(2, 2, [1, 2, 2, 4]), [1])
        self.assertEqual(rank(2, 2, [1, 2, 2, 5]), [2])
        self.assertEqual(rank(2, 3, [0, 0, 1, 0, 2, 0]), [2])
        self.assertEqual(rank(3, 2, [0, 0, 1, 0, 2, 0]), [1])
        self.assertEqual(rank(1, 1, [0]), [0])
        self.assertEqual(rank(1, 1, [-7]), [1])

    def test_all_small_tables(self):
        for rows, columns in ((1, 3), (3, 1), (2, 2), (2, 3), (3, 2)):
            for table in itertools.product(range(-2, 3), repeat=rows * columns):
                if rows * columns < 6 or max(table) - min(table) < 3:
                    self.check(rows, columns, list(table))

    def test_all_tables_of_three_of_minus_one_to_one(self):
        for table in itertools.product((-1, 0, 1), repeat=9):
            self.check(3, 3, list(table))

    def test_made_up_tables_of_each_shape(self):
        for rows, columns in itertools.product(range(1, 7), repeat=2):
            for high in (1, 2, 99):
                for seed in range(4):
                    self.check(rows, columns, made_up_numbers(100 * rows + 10 * columns + seed, rows * columns,
                                                              -high, high))

    def test_made_up_tables_of_each_shape_and_rank(self):
        for rows, columns in itertools.product(range(2, 7), repeat=2):
            for inner in range(1, min(rows, columns)):
                left = [made_up_numbers(100 * rows + inner + i, inner, -3, 3) for i in range(rows)]
                right = [made_up_numbers(77 * columns + inner + i, columns, -3, 3) for i in range(inner)]
                self.check(rows, columns, joined(product(left, right)))

    def test_numbers_below_zero_only(self):
        for rows, columns in ((2, 5), (5, 2), (4, 4)):
            self.check(rows, columns, made_up_numbers(rows, rows * columns, -50, -1))


class TestZeros(RankCase):
    def test_nothing_but_zero(self):
        for rows, columns in itertools.product(range(1, 17), repeat=2):
            self.assertEqual(rank(rows, columns, [0] * (rows * columns)), [0])

    def test_a_row_of_zero(self):
        for rows, columns in ((4, 4), (5, 3), (3, 5)):
            for place in range(rows):
                table = made_up_numbers(place, rows * columns, -50, 50)
                table[place * columns:(place + 1) * columns] = [0] * columns
                self.check(rows, columns, table)

    def test_columns_of_zero(self):
        for rows, columns in ((4, 4), (5, 3), (3, 5)):
            for one, other in itertools.product(range(columns), repeat=2):
                table = made_up_numbers(one, rows * columns, -50, 50)
                table[one::columns] = [0] * rows
                table[other::columns] = [0] * rows
                self.check(rows, columns, table)

    def test_a_single_number(self):
        for rows, columns in ((1, 16), (16, 1), (3, 4), (16, 16)):
            for place in range(rows * columns):
                table = [0] * (rows * columns)
                table[place] = -3
                self.assertEqual(rank(rows, columns, table), [1])

    def test_zero_in_the_way(self):
        self.assertEqual(rank(2, 2, [0, 1, 1, 0]), [2])
        self.assertEqual(rank(3, 3, [0, 0, 1, 0, 1, 0, 1, 0, 0]), [3])
        self.assertEqual(rank(3, 3, [1, 2, 3, 2, 4, 7, 3, 5, 1]), [3])
        self.assertEqual(rank(3, 4, [1, 2, 3, 4, 2, 4, 6, 9, 3, 6, 9, 1]), [2])
        self.assertEqual(rank(3, 5, [2, 4, 1, 1, 1, 4, 8, 2, 5, 3, 6, 12, 3, 6, 9]), [3])

    def test_a_column_passed_over_after_each_step(self):
        # Even columns lead, each odd one is twice the one before it; rows are mixed so that no 0 shows it.
        stairs = [[0] * (2 * i) + [3, 6] + [5, 10] * (3 - i) for i in range(4)]
        mixed = product([[7, 2, -3, 5], [1, 1, 1, 1], [4, -9, 2, 2], [3, 8, 5, -6], [2, 2, 2, 2]], stairs)
        self.check(5, 8, joined(mixed))
        self.assertEqual(rank(5, 8, joined(mixed)), [4])


class TestRowsThatOthersMake(RankCase):
    def test_two_rows_the_same(self):
        for one, other in itertools.combinations(range(4), 2):
            rows = [made_up_numbers(one + 10 * other + i, 5, -50, 50) for i in range(4)]
            rows[other] = list(rows[one])
            self.assertEqual(rank(4, 5, joined(rows)), [3])

    def test_a_sum_of_multiples(self):
        for place in range(4):
            rows = [made_up_numbers(10 * place + i, 4, -50, 50) for i in range(3)]
            rows.insert(place, product([[3, -7, 2]], rows)[0])
            self.check(4, 4, joined(rows))
            self.assertEqual(rank(4, 4, joined(rows)), [3])

    def test_a_sum_of_multiples_with_fractions(self):
        self.assertEqual(rank(2, 3, [4, 6, -10, 6, 9, -15]), [1])
        self.assertEqual(rank(3, 2, [4, 6, -10, -15, 6, 9]), [1])


class TestEdges(RankCase):
    def test_one_number(self):
        for number in (LOWEST, HIGHEST, -1, 1):
            self.assertEqual(rank(1, 1, [number]), [1])

    def test_one_row_and_one_column(self):
        for count in range(1, 17):
            numbers = made_up_numbers(count, count, LOWEST, HIGHEST)
            self.assertEqual(rank(1, count, numbers), [1])
            self.assertEqual(rank(count, 1, numbers), [1])
            self.assertEqual(rank(1, count, [0] * (count - 1) + [LOWEST]), [1])
            self.assertEqual(rank(count, 1, [0] * (count - 1) + [HIGHEST]), [1])

    def test_each_shape_in_range_is_answered(self):
        for rows, columns in itertools.product(range(1, 17), repeat=2):
            table = [2 if i == j else 0 for i in range(rows) for j in range(columns)]
            self.assertEqual(rank(rows, columns, table), [min(rows, columns)])

    def test_lowest_and_highest(self):
        self.assertEqual(rank(2, 2, [LOWEST, HIGHEST, HIGHEST, LOWEST]), [2])
        self.assertEqual(rank(2, 2, [LOWEST, HIGHEST, LOWEST, HIGHEST]), [1])
        for rows, columns in ((2, 3), (3, 2), (4, 4), (5, 6), (6, 5)):
            for seed in range(5):
                choices = made_up_numbers(seed, rows * columns, 0, 1)
                self.check(rows, columns, [HIGHEST if choice else LOWEST for choice in choices])

    def test_one_beside_a_multiple(self):
        # Rounding, or keeping only some digits, would take these two rows for multiples of one.
        self.assertEqual(rank(2, 2, [HIGHEST, HIGHEST - 1, HIGHEST - 1, HIGHEST - 2]), [2])
        self.assertEqual(rank(2, 2, [LOWEST, LOWEST + 1, LOWEST + 1, LOWEST + 2]), [2])
        self.assertEqual(rank(2, 2, [1 << 62, 1 << 61, LOWEST, -(1 << 62)]), [1])

    def test_sixteen_full_of_rank_sixteen(self):
        for low, high in ((LOWEST, HIGHEST), (-9, 9)):
            table = made_up_numbers(1, 256, low, high)
            self.assertNotEqual(determinant_by_first_row(16, table), 0)
            self.assertEqual(rank(16, 16, table), [16])
        self.assertEqual(rank(16, 16, diagonal([LOWEST, HIGHEST] * 8)), [16])

    def test_sixteen_full_of_rank_fifteen(self):
        for place in (0, 7, 15):
            rows = [made_up_numbers(20 * place + i, 16, LOWEST // 32, HIGHEST // 32) for i in range(15)]
            self.assertNotEqual(determinant_by_first_row(15, joined([row[:15] for row in rows])), 0)
            rows.insert(place, [sum(column) for column in zip(*rows)])
            self.assertEqual(rank(16, 16, joined(rows)), [15])

    def test_sixteen_of_fewer_columns_or_rows(self):
        table = made_up_numbers(5, 16 * 9, LOWEST, HIGHEST)
        self.assertNotEqual(determinant_by_first_row(9, table[:81]), 0)
        self.assertEqual(rank(16, 9, table), [9])
        table = [table[i * 9 + j] for j in range(9) for i in range(16)]
        self.assertEqual(rank(9, 16, table), [9])

    def test_sixteen_full_of_a_small_rank_with_large_numbers(self):
        for inner in range(1, 5):
            left = [made_up_numbers(inner + 50 * i, inner, -(1 << 30), 1 << 30) for i in range(16)]
            right = [made_up_numbers(inner + 70 * i, 16, -(1 << 30), 1 << 30) for i in range(inner)]
            table = joined(product(left, right))
            self.assertGreater(max(table), 1 << 59)
            self.assertTrue(all(LOWEST <= number <= HIGHEST for number in table))
            corner = [table[i * 16 + j] for i in range(inner) for j in range(inner)]
            self.assertNotEqual(determinant_by_first_row(inner, corner), 0)
            self.assertEqual(rank(16, 16, table), [inner])


class TestRefusals(unittest.TestCase):
    def test_rows_or_columns_out_of_range(self):
        for rows, columns in out_of_range(2, 16):
            self.assertEqual(rank(rows, columns, []), [-2], (rows, columns))


class TestAsIfForTheFirstTime(AsIfForTheFirstTime, unittest.TestCase):
    call = staticmethod(rank)
    calls = [(n, 17 - n, made_up_numbers(n, n * (17 - n), LOWEST, HIGHEST)) for n in range(1, 17)] + [
        (n, n, made_up_numbers(n, n * n, -1, 1)) for n in range(1, 17)] + [
        (0, 1, []), (1, 17, []), (1, 1, [0]), (2, 2, [0, 7, 1, 3]), (2, 2, [0, 7, 0, 3]), (16, 16, [0] * 256)]


if __name__ == "__main__":
    unittest.main()

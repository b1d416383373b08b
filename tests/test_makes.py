import itertools
import unittest

from tests.helper import (
    AsIfForTheFirstTime, HIGHEST, HIGHEST_SMALL, LOWEST, LOWEST_SMALL, determinant_by_first_row, diagonal, joined,
    made_up_numbers, makes_by_minors, makes_by_replacing, out_of_range, product)
from wholetables.tables import makes


def rows_made_of_two(table, size):
    """The rows of up to `size` that a table of two rows and two columns makes, its determinant being up to 8.

    So many times the determinant of any row is made, so multiples up to the determinant make one of each kind.
    """
    whole = abs(table[0] * table[3] - table[1] * table[2])
    kinds = {
        ((a * table[0] + b * table[2]) % whole, (a * table[1] + b * table[3]) % whole)
        for a in range(whole) for b in range(whole)
    }
    window = itertools.product(range(-size, size + 1), repeat=2)
    return {row for row in window if (row[0] % whole, row[1] % whole) in kinds}


class TestReference(unittest.TestCase):
    """The references are held against one another, and against rows worked out by hand."""

    def test_by_hand(self):
        self.assertTrue(makes_by_minors(1, 2, [2, 4], [-6, -12]))
        self.assertFalse(makes_by_minors(1, 2, [2, 4], [1, 2]))
        self.assertFalse(makes_by_minors(1, 2, [2, 4], [2, 5]))
        self.assertTrue(makes_by_minors(2, 2, [0, 0, 0, 0], [0, 0]))
        self.assertFalse(makes_by_minors(2, 2, [0, 0, 0, 0], [0, 1]))
        self.assertTrue(makes_by_minors(2, 1, [6, 10], [2]))
        self.assertFalse(makes_by_minors(2, 1, [6, 10], [1]))
        self.assertTrue(makes_by_replacing(2, [2, 1, 0, 3], [4, -4]))
        self.assertFalse(makes_by_replacing(2, [2, 1, 0, 3], [4, -3]))

    def test_against_one_another(self):
        for table in itertools.product(range(-2, 3), repeat=4):
            if table[0] * table[3] != table[1] * table[2]:
                made = rows_made_of_two(table, 2)
                for row in itertools.product(range(-2, 3), repeat=2):
                    self.assertEqual(makes_by_minors(2, 2, list(table), list(row)), row in made)
                    self.assertEqual(makes_by_replacing(2, list(table), list(row)), row in made)


class MakesCase(unittest.TestCase):
    def check(self, rows, columns, table, row):
        told = (rows, columns, table, row)
        self.assertEqual(makes(rows, columns, table, row), [int(makes_by_minors(rows, columns, table, row))], told)

    def check_made(self, rows, columns, table, multiples):
        row = product([multiples], [table[i * columns:(i + 1) * columns] for i in range(rows)])[0]
        self.assertTrue(all(LOWEST <= number <= HIGHEST for number in row))
        self.assertEqual(makes(rows, columns, table, row), [1], (rows, columns, table, row))
        return row


class TestOrdinary(MakesCase):
    def test_written_out(self):
        self.assertEqual(makes(1, 2, [2, 4], [1, 2]), [0])
        self.assertEqual(makes(1, 2, [2, 4], [-6, -12]), [1])
        self.assertEqual(makes(1, 2, [2, 4], [2, 5]), [0])
        self.assertEqual(makes(2, 1, [6, 10], [2]), [1])
        self.assertEqual(makes(2, 1, [6, 10], [3]), [0])
        self.assertEqual(makes(2, 2, [2, 0, 0, 3], [4, -9]), [1])
        self.assertEqual(makes(2, 2, [2, 0, 0, 3], [4, -8]), [0])
        self.assertEqual(makes(2, 2, [2, 0, 0, 3], [3, 3]), [0])
        self.assertEqual(makes(2, 3, [1, 2, 3, 4, 5, 6], [3, 3, 3]), [1])
        self.assertEqual(makes(2, 3, [1, 2, 3, 4, 5, 6], [1, 1, 1]), [0])
        self.assertEqual(makes(2, 3, [1, 2, 3, 4, 5, 6], [3, 3, 4]), [0])

    def test_all_small_tables_of_two(self):
        for table in itertools.product(range(-2, 3), repeat=4):
            if table[0] * table[3] != table[1] * table[2]:
                made = rows_made_of_two(table, 4)
                for row in itertools.product(range(-4, 5), repeat=2):
                    self.assertEqual(makes(2, 2, list(table), list(row)), [int(row in made)], (table, row))

    def test_all_small_tables_of_any_rank(self):
        for table in itertools.product((-2, 0, 1, 3), repeat=4):
            for row in itertools.product((-3, -1, 0, 2), repeat=2):
                self.check(2, 2, list(table), list(row))

    def test_made_up_rows_of_each_shape(self):
        for rows, columns in itertools.product(range(1, 6), repeat=2):
            for seed in range(6):
                table = made_up_numbers(100 * rows + 10 * columns + seed, rows * columns, -3, 3)
                self.check(rows, columns, table, made_up_numbers(seed, columns, -4, 4))

    def test_made_up_sums_of_each_shape(self):
        for rows, columns in itertools.product(range(1, 9), repeat=2):
            for seed in range(3):
                table = made_up_numbers(100 * rows + 10 * columns + seed, rows * columns, -99, 99)
                self.check_made(rows, columns, table, made_up_numbers(seed, rows, -99, 99))

    def test_beside_made_up_sums(self):
        for rows, columns in ((2, 2), (3, 3), (2, 4), (4, 3), (4, 4)):
            for seed in range(3):
                table = made_up_numbers(10 * rows + seed, rows * columns, -9, 9)
                row = self.check_made(rows, columns, table, made_up_numbers(seed, rows, -9, 9))
                for place in range(columns):
                    self.check(rows, columns, table, row[:place] + [row[place] + 1] + row[place + 1:])

    def test_multiples_with_fractions_are_not_enough(self):
        for rows, columns in ((1, 3), (2, 3), (3, 3), (3, 5), (4, 4)):
            rows_of_it = [made_up_numbers(10 * rows + i, columns, -9, 9) for i in range(rows)]
            doubled = [2 * number for number in joined(rows_of_it)]
            for row in rows_of_it:
                self.assertEqual(makes(rows, columns, doubled, row), [0])
                self.assertEqual(makes(rows, columns, doubled, [4 * number for number in row]), [1])

    def test_numbers_below_zero_only(self):
        for rows, columns in ((1, 4), (4, 1), (2, 5), (5, 2), (3, 3)):
            table = made_up_numbers(rows, rows * columns, -50, -1)
            self.check_made(rows, columns, table, made_up_numbers(columns, rows, -50, -1))
            self.check_made(rows, columns, table, made_up_numbers(columns, rows, 1, 50))
            self.check(rows, columns, table, made_up_numbers(columns, columns, -50, -1))


class TestZeros(MakesCase):
    def test_the_row_of_nothing_but_zero(self):
        for rows, columns in itertools.product(range(1, 9), repeat=2):
            for table in (made_up_numbers(rows, rows * columns, -99, 99), [0] * (rows * columns)):
                self.assertEqual(makes(rows, columns, table, [0] * columns), [1])

    def test_a_table_of_nothing_but_zero(self):
        for rows, columns in itertools.product(range(1, 9), repeat=2):
            for place in range(columns):
                for number in (1, -1, LOWEST, HIGHEST):
                    row = [0] * columns
                    row[place] = number
                    self.assertEqual(makes(rows, columns, [0] * (rows * columns), row), [0])

    def test_a_row_of_zero_in_the_table(self):
        for place in range(3):
            table = made_up_numbers(place, 9, -9, 9)
            table[place * 3:(place + 1) * 3] = [0] * 3
            row = self.check_made(3, 3, table, [5, -4, 3])
            self.check(3, 3, table, [row[0], row[1] - 1, row[2]])
            self.check(3, 3, table, [1, 1, 1])

    def test_a_column_of_zero_in_the_table(self):
        for place in range(3):
            table = made_up_numbers(place, 12, -9, 9)
            table[place::3] = [0] * 4
            row = self.check_made(4, 3, table, [5, -4, 3, -2])
            for number in (1, -1, LOWEST, HIGHEST):
                self.assertEqual(makes(4, 3, table, row[:place] + [number] + row[place + 1:]), [0])

    def test_a_column_passed_over(self):
        self.assertEqual(makes(2, 3, [2, 4, 1, 2, 4, 4], [0, 0, 3]), [1])
        self.assertEqual(makes(2, 3, [2, 4, 1, 2, 4, 4], [0, 0, 2]), [0])
        self.assertEqual(makes(2, 3, [2, 4, 1, 2, 4, 4], [2, 5, 1]), [0])
        self.assertEqual(makes(2, 3, [2, 4, 1, 2, 4, 4], [-2, -4, 2]), [1])


class TestRowsThatOthersMake(MakesCase):
    def test_two_rows_the_same(self):
        self.assertEqual(makes(2, 2, [2, 4, 2, 4], [6, 12]), [1])
        self.assertEqual(makes(2, 2, [2, 4, 2, 4], [3, 6]), [0])
        for one, other in itertools.combinations(range(3), 2):
            rows = [made_up_numbers(one + 10 * other + i, 4, -9, 9) for i in range(3)]
            rows[other] = list(rows[one])
            row = self.check_made(3, 4, joined(rows), [3, -7, 2])
            self.check(3, 4, joined(rows), [row[0] + 1] + row[1:])

    def test_a_sum_of_multiples(self):
        for place in range(4):
            rows = [made_up_numbers(10 * place + i, 4, -9, 9) for i in range(3)]
            rows.insert(place, product([[3, -7, 2]], rows)[0])
            row = self.check_made(4, 4, joined(rows), [1, -2, 3, -4])
            self.check(4, 4, joined(rows), row[:3] + [row[3] - 1])

    def test_a_sum_of_multiples_with_fractions(self):
        self.assertEqual(makes(2, 2, [2, 4, 3, 6], [1, 2]), [1])
        self.assertEqual(makes(2, 3, [4, 6, -10, 6, 9, -15], [-2, -3, 5]), [1])
        self.assertEqual(makes(2, 3, [4, 6, -10, 6, 9, -15], [1, 1, -2]), [0])


class TestEdges(MakesCase):
    def test_one_number(self):
        self.assertEqual(makes(1, 1, [1], [LOWEST]), [1])
        self.assertEqual(makes(1, 1, [-1], [HIGHEST]), [1])
        self.assertEqual(makes(1, 1, [LOWEST_SMALL], [LOWEST]), [1])
        self.assertEqual(makes(1, 1, [LOWEST_SMALL], [HIGHEST]), [0])
        self.assertEqual(makes(1, 1, [LOWEST_SMALL], [LOWEST + 1]), [0])
        self.assertEqual(makes(1, 1, [HIGHEST_SMALL], [LOWEST]), [0])
        self.assertEqual(makes(1, 1, [7], [HIGHEST]), [1])
        self.assertEqual(makes(1, 1, [7], [HIGHEST - 1]), [0])
        self.assertEqual(makes(1, 1, [0], [0]), [1])
        self.assertEqual(makes(1, 1, [0], [HIGHEST]), [0])

    def test_one_row_and_one_column(self):
        for count in range(1, 9):
            numbers = made_up_numbers(count, count, LOWEST_SMALL, HIGHEST_SMALL)
            row = self.check_made(1, count, numbers, [1 << 47])
            self.assertEqual(makes(1, count, numbers, row[:-1] + [row[-1] + 1]), [0])
            sixes = [6 * number for number in range(count, 0, -1)]
            self.assertEqual(makes(count, 1, sixes, [LOWEST]), [0])
            self.assertEqual(makes(count, 1, sixes, [LOWEST + 2]), [1])

    def test_each_shape_in_range_is_answered(self):
        for rows, columns in itertools.product(range(1, 9), repeat=2):
            table = [2 if i == j else 0 for i in range(rows) for j in range(columns)]
            last = min(rows, columns) - 1
            row = [-2 if j <= last else 0 for j in range(columns)]
            self.assertEqual(makes(rows, columns, table, row), [1])
            row[last] = 1
            self.assertEqual(makes(rows, columns, table, row), [0])

    def test_lowest_and_highest_in_the_table(self):
        table = [LOWEST_SMALL, HIGHEST_SMALL, HIGHEST_SMALL, LOWEST_SMALL]
        self.assertEqual(makes(2, 2, table, [-1, -1]), [1])
        self.assertEqual(makes(2, 2, table, [0, 65535]), [1])
        self.assertEqual(makes(2, 2, table, [0, 65534]), [0])
        for rows, columns in ((2, 3), (3, 2), (4, 4), (5, 4)):
            for seed in range(3):
                choices = made_up_numbers(seed, rows * columns, 0, 1)
                table = [HIGHEST_SMALL if choice else LOWEST_SMALL for choice in choices]
                row = self.check_made(rows, columns, table, made_up_numbers(seed, rows, -(1 << 44), 1 << 44))
                self.check(rows, columns, table, [row[0] - 1] + row[1:])

    def test_lowest_and_highest_in_the_row(self):
        ones = diagonal([1] * 8)
        self.assertEqual(makes(8, 8, ones, [LOWEST, HIGHEST] * 4), [1])
        self.assertEqual(makes(8, 8, ones[:56] + [0] * 8, [LOWEST, HIGHEST] * 4), [0])
        for rows, columns in ((2, 3), (3, 2), (4, 4), (5, 4)):
            for seed in range(3):
                choices = made_up_numbers(seed, columns, 0, 1)
                table = made_up_numbers(seed, rows * columns, -2, 2)
                self.check(rows, columns, table, [HIGHEST if choice else LOWEST for choice in choices])

    def test_eight_full(self):
        for seed in range(3):
            table = made_up_numbers(seed, 64, LOWEST_SMALL, HIGHEST_SMALL)
            self.assertNotEqual(determinant_by_first_row(8, table), 0)
            row = self.check_made(8, 8, table, made_up_numbers(seed, 8, -(1 << 44), 1 << 44))
            for place, beside in itertools.product(range(8), (-1, 1)):
                other = row[:place] + [row[place] + beside] + row[place + 1:]
                self.assertFalse(makes_by_replacing(8, table, other))
                self.assertEqual(makes(8, 8, table, other), [0])

    def test_eight_full_with_a_small_determinant(self):
        # Numbers of which some neighbours are made and some are not.
        answers = []
        for seed in range(4):
            upper = [[0] * i + [3 if i == 5 else 1] + made_up_numbers(seed + i, 7 - i, -3, 3) for i in range(8)]
            lower = [made_up_numbers(seed + 9 * i, i, -3, 3) + [1] + [0] * (7 - i) for i in range(8)]
            table = joined(product(lower, upper))
            self.assertEqual(abs(determinant_by_first_row(8, table)), 3)
            row = self.check_made(8, 8, table, made_up_numbers(seed, 8, -(1 << 50), 1 << 50))
            for place in range(8):
                other = row[:place] + [row[place] + 1] + row[place + 1:]
                answers.append(int(makes_by_replacing(8, table, other)))
                self.assertEqual(makes(8, 8, table, other), answers[-1:])
        self.assertEqual(set(answers), {0, 1})

    def test_eight_full_of_a_smaller_rank(self):
        for inner in (1, 4, 7):
            left = [made_up_numbers(inner + 50 * i, inner, -60, 60) for i in range(8)]
            right = [made_up_numbers(inner + 70 * i, 8, -60, 60) for i in range(inner)]
            table = joined(product(left, right))
            row = self.check_made(8, 8, table, made_up_numbers(inner, 8, -(1 << 44), 1 << 44))
            self.check(8, 8, table, row[:7] + [row[7] + 1])
            self.check(8, 8, table, right[0])


class TestRefusals(unittest.TestCase):
    def test_rows_or_columns_out_of_range(self):
        for rows, columns in out_of_range(2, 8):
            self.assertEqual(makes(rows, columns, [], []), [-2], (rows, columns))


class TestAsIfForTheFirstTime(AsIfForTheFirstTime, unittest.TestCase):
    call = staticmethod(makes)
    calls = [
        (n, m, made_up_numbers(n, n * m, LOWEST_SMALL, HIGHEST_SMALL), made_up_numbers(n, m, LOWEST, HIGHEST))
        for n, m in zip(range(1, 9), range(8, 0, -1))] + [
        (n, n, made_up_numbers(n, n * n, -high, high), made_up_numbers(n, n, LOWEST, HIGHEST))
        for n in range(1, 9) for high in (1, 32767)] + [
        (0, 1, [], []), (1, 9, [], []), (1, 1, [0], [0]), (1, 1, [1], [4]), (1, 2, [6, 10], [-6, -10]),
        (2, 2, [0, 7, 1, 3], [1, 4]), (2, 2, [-4, 5, 0, -6], [4, 7]), (8, 8, [0] * 64, [0] * 8)]


if __name__ == "__main__":
    unittest.main()

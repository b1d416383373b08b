import itertools
import unittest

from tests.helper import AsIfForTheFirstTime, HIGHEST, LOWEST, determinant_by_first_row, diagonal, made_up_numbers
from wholetables.tables import determinant


class TestReference(unittest.TestCase):
    """The reference is itself held against determinants worked out by hand."""

    def test_by_hand(self):
        self.assertEqual(determinant_by_first_row(1, [5]), 5)
        self.assertEqual(determinant_by_first_row(2, [1, 2, 3, 4]), -2)
        self.assertEqual(determinant_by_first_row(3, [2, 0, 1, 1, 3, 2, 1, 1, 4]), 18)


class DeterminantCase(unittest.TestCase):
    def check(self, n, table):
        self.assertEqual(determinant(n, table), [0, determinant_by_first_row(n, table)], (n, table))

    def check_zero(self, n, table):
        self.assertEqual(determinant_by_first_row(n, table), 0, (n, table))
        self.assertEqual(determinant(n, table), [0, 0], (n, table))


class TestOrdinary(DeterminantCase):
    def test_written_out(self):
        self.assertEqual(determinant(1, [5]), [0, 5])
        self.assertEqual(determinant(1, [-5]), [0, -5])
        self.assertEqual(determinant(1, [0]), [0, 0])
        self.assertEqual(determinant(2, [1, 2, 3, 4]), [0, -2])
        self.assertEqual(determinant(3, [2, 0, 1, 1, 3, 2, 1, 1, 4]), [0, 18])

    def test_rows_follow_one_another(self):
        self.assertEqual(determinant(3, [1, 2, 3, 0, 4, 5, 0, 0, 6]), [0, 24])

    def test_all_small_tables_of_two(self):
        for table in itertools.product(range(-3, 4), repeat=4):
            self.check(2, list(table))

    def test_all_tables_of_three_of_minus_one_to_one(self):
        for table in itertools.product((-1, 0, 1), repeat=9):
            self.check(3, list(table))

    def test_made_up_tables_of_each_size(self):
        for n in range(1, 11):
            for seed in range(6):
                self.check(n, made_up_numbers(100 * n + seed, n * n, -99, 99))

    def test_made_up_tables_with_many_zeros(self):
        for n in range(2, 9):
            for seed in range(40):
                self.check(n, made_up_numbers(1000 * n + seed, n * n, -1, 1))

    def test_numbers_below_zero_only(self):
        for n in range(1, 8):
            self.check(n, made_up_numbers(n, n * n, -1000, -1))


class TestZeroInTheWay(DeterminantCase):
    def test_zero_first(self):
        self.assertEqual(determinant(2, [0, 1, 1, 0]), [0, -1])
        self.assertEqual(determinant(3, [0, 0, 1, 0, 1, 0, 1, 0, 0]), [0, -1])
        self.assertEqual(determinant(3, [0, 1, 0, 0, 0, 1, 1, 0, 0]), [0, 1])

    def test_zero_later_on(self):
        self.check(3, [1, 2, 3, 2, 4, 7, 3, 5, 1])
        self.check(4, [1, 1, 1, 1, 1, 1, 2, 3, 1, 1, 4, 9, 1, 2, 3, 4])
        self.assertEqual(determinant(3, [1, 2, 3, 2, 4, 7, 3, 5, 1]), [0, 1])

    def test_every_order_of_the_rows(self):
        for n in range(1, 7):
            for order in itertools.permutations(range(n)):
                table = [i + 2 if order[i] == j else 0 for i in range(n) for j in range(n)]
                self.check(n, table)

    def test_sixteen_rows_upside_down(self):
        table = [1 if i + j == 15 else 0 for i in range(16) for j in range(16)]
        self.assertEqual(determinant(16, table), [0, 1])
        table = [1 if (i + 1) % 16 == j else 0 for i in range(16) for j in range(16)]
        self.assertEqual(determinant(16, table), [0, -1])


class TestDeterminantsOfZero(DeterminantCase):
    def test_nothing_but_zero(self):
        for n in range(1, 17):
            self.assertEqual(determinant(n, [0] * (n * n)), [0, 0])

    def test_a_row_of_zero(self):
        for place in range(5):
            table = made_up_numbers(place, 25, -50, 50)
            table[place * 5:place * 5 + 5] = [0] * 5
            self.check_zero(5, table)

    def test_a_column_of_zero(self):
        for place in range(5):
            table = made_up_numbers(place, 25, -50, 50)
            table[place::5] = [0] * 5
            self.check_zero(5, table)

    def test_two_rows_the_same(self):
        for one, other in itertools.combinations(range(5), 2):
            table = made_up_numbers(one + 10 * other, 25, -50, 50)
            table[other * 5:other * 5 + 5] = table[one * 5:one * 5 + 5]
            self.check_zero(5, table)

    def test_a_row_that_the_others_make(self):
        for place in range(4):
            rows = [made_up_numbers(10 * place + i, 4, -50, 50) for i in range(3)]
            made = [3 * a - 7 * b + 2 * c for a, b, c in zip(*rows)]
            rows.insert(place, made)
            self.check_zero(4, sum(rows, []))

    def test_sixteen_rows_the_last_made_by_the_others(self):
        rows = [made_up_numbers(i, 16, LOWEST // 32, HIGHEST // 32) for i in range(15)]
        rows.append([sum(column) for column in zip(*rows)])
        self.assertEqual(determinant(16, sum(rows, [])), [0, 0])


class TestEdges(DeterminantCase):
    def test_one_number(self):
        self.assertEqual(determinant(1, [LOWEST]), [0, LOWEST])
        self.assertEqual(determinant(1, [HIGHEST]), [0, HIGHEST])

    def test_lowest_and_highest(self):
        self.assertEqual(determinant(2, [LOWEST, HIGHEST, HIGHEST, LOWEST]), [0, 18446744073709551615])
        self.assertEqual(determinant(2, [LOWEST, 0, 0, HIGHEST]), [0, -85070591730234615856620279821087277056])
        for n in range(2, 9):
            for seed in range(5):
                choices = made_up_numbers(seed, n * n, 0, 1)
                self.check(n, [HIGHEST if choice else LOWEST for choice in choices])

    def test_sixteen_on_the_diagonal(self):
        self.assertEqual(determinant(16, diagonal([LOWEST] * 16)), [0, 1 << 1008])
        self.assertEqual(determinant(16, diagonal([HIGHEST] * 16)), [0, HIGHEST ** 16])
        self.assertEqual(determinant(16, diagonal([LOWEST] * 15 + [HIGHEST])), [0, LOWEST ** 15 * HIGHEST])

    def test_sixteen_full(self):
        self.check(16, made_up_numbers(1, 256, LOWEST, HIGHEST))
        self.check(16, made_up_numbers(2, 256, -9, 9))

    def test_sixteen_full_of_lowest_and_highest(self):
        choices = made_up_numbers(3, 256, 0, 1)
        self.check(16, [HIGHEST if choice else LOWEST for choice in choices])

    def test_each_size_in_range_is_answered(self):
        for n in range(1, 17):
            self.assertEqual(determinant(n, diagonal([2] * n)), [0, 1 << n])


class TestRefusals(unittest.TestCase):
    def test_n_out_of_range(self):
        for n in (0, 17, -1, -16, 18, 256, -2147483648, 2147483647):
            self.assertEqual(determinant(n, []), [-2], n)


class TestAsIfForTheFirstTime(AsIfForTheFirstTime, unittest.TestCase):
    call = staticmethod(determinant)
    calls = [(n, made_up_numbers(n, n * n, LOWEST, HIGHEST)) for n in range(1, 17)] + [
        (n, made_up_numbers(n, n * n, -1, 1)) for n in range(1, 10)] + [
        (0, []), (17, []), (1, [0]), (2, [0, 7, 1, 3]), (2, [1, 2, 2, 4])]


if __name__ == "__main__":
    unittest.main()

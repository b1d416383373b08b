import itertools
import math
import unittest

from tests.helper import (
    AsIfForTheFirstTime, HIGHEST_SMALL, LOWEST_SMALL, diagonal, joined, made_up_numbers, minors, out_of_range, product)
from wholetables.tables import divisors


class DivisorsCase(unittest.TestCase):
    def check(self, rows, columns, table):
        told = (rows, columns, table)
        answer = divisors(rows, columns, table)
        sized = minors(rows, columns, table)
        self.assertEqual(answer[0], max(k for k, some in enumerate(sized) if any(some)), told)
        self.assertEqual(len(answer), 1 + answer[0], told)
        self.assertTrue(all(number > 0 for number in answer[1:]), told)
        for j in range(1, answer[0] + 1):
            self.assertEqual(math.prod(answer[1:j + 1]), math.gcd(*sized[j]), told)


class TestOrdinary(DivisorsCase):
    def test_written_out(self):
        self.assertEqual(divisors(2, 2, [2, 0, 0, 3]), [2, 1, 6])
        self.assertEqual(divisors(2, 2, [2, 4, 4, 8]), [1, 2])
        self.assertEqual(divisors(1, 2, [6, 10]), [1, 2])
        self.assertEqual(divisors(2, 1, [6, 10]), [1, 2])
        self.assertEqual(divisors(2, 2, [1, 2, 3, 4]), [2, 1, 2])
        self.assertEqual(divisors(2, 3, [2, 4, 6, 4, 8, 14]), [2, 2, 2])
        self.assertEqual(divisors(3, 3, [2, 4, 4, -6, 6, 12, 10, -4, -16]), [3, 2, 6, 12])

    def test_all_small_tables_of_two(self):
        for table in itertools.product(range(-4, 5), repeat=4):
            self.check(2, 2, list(table))

    def test_all_small_tables_of_two_and_three(self):
        for table in itertools.product((-6, 0, 2, 3), repeat=6):
            self.check(2, 3, list(table))
            self.check(3, 2, list(table))

    def test_made_up_tables_of_each_shape(self):
        for rows, columns in itertools.product(range(1, 6), repeat=2):
            for high in (1, 3, 30, 32767):
                for seed in range(5):
                    self.check(rows, columns, made_up_numbers(100 * rows + 10 * columns + seed, rows * columns,
                                                              -high, high))

    def test_made_up_tables_with_many_common_divisors(self):
        choices = (0, 4, -6, 12, 30, 60, -90, 180, 1260)
        for rows, columns in itertools.product(range(1, 6), repeat=2):
            for seed in range(8):
                places = made_up_numbers(100 * rows + 10 * columns + seed, rows * columns, 0, len(choices) - 1)
                self.check(rows, columns, [choices[place] for place in places])

    def test_made_up_tables_of_each_shape_and_rank(self):
        for rows, columns in itertools.product(range(2, 7), repeat=2):
            for inner in range(1, min(rows, columns)):
                left = [made_up_numbers(100 * rows + inner + i, inner, -9, 9) for i in range(rows)]
                right = [made_up_numbers(77 * columns + inner + i, columns, -9, 9) for i in range(inner)]
                self.check(rows, columns, joined(product(left, right)))

    def test_numbers_below_zero_only(self):
        self.assertEqual(divisors(1, 1, [-4]), [1, 4])
        self.assertEqual(divisors(2, 2, [-2, 0, 0, -6]), [2, 2, 6])
        for rows, columns in ((1, 4), (4, 1), (2, 5), (5, 2), (4, 4)):
            self.check(rows, columns, made_up_numbers(rows, rows * columns, -50, -1))

    def test_columns_for_rows(self):
        for rows, columns in ((2, 3), (4, 3), (5, 2), (4, 4)):
            for seed in range(5):
                table = made_up_numbers(seed, rows * columns, -12, 12)
                turned_over = [table[i * columns + j] for j in range(columns) for i in range(rows)]
                self.assertEqual(divisors(rows, columns, table), divisors(columns, rows, turned_over))


class TestDiagonals(DivisorsCase):
    def test_written_out(self):
        self.assertEqual(divisors(3, 3, diagonal([2, 3, 5])), [3, 1, 1, 30])
        self.assertEqual(divisors(3, 3, diagonal([6, 10, 15])), [3, 1, 30, 30])
        self.assertEqual(divisors(3, 3, diagonal([12, 6, 2])), [3, 2, 6, 12])
        self.assertEqual(divisors(3, 3, diagonal([4, 4, 4])), [3, 4, 4, 4])
        self.assertEqual(divisors(2, 2, diagonal([0, 7])), [1, 7])

    def test_every_choice_of_three(self):
        for numbers in itertools.product((0, 1, -2, 3, 4, 6, 12, 10), repeat=3):
            self.check(3, 3, diagonal(list(numbers)))

    def test_eight(self):
        self.check(8, 8, diagonal([6, 10, 15, 21, 35, 4, 9, 14]))
        self.assertEqual(divisors(8, 8, diagonal([2, 3, 5, 7, 11, 13, 17, 19])), [8] + [1] * 7 + [9699690])

    def test_numbers_that_divide_nothing_else_but_stand_alone_in_their_rows_and_columns(self):
        self.assertEqual(divisors(2, 2, [0, 4, 6, 0]), [2, 2, 12])
        self.assertEqual(divisors(3, 3, [0, 0, 6, 10, 0, 0, 0, 15, 0]), [3, 1, 30, 30])


class TestZeros(DivisorsCase):
    def test_nothing_but_zero(self):
        for rows, columns in itertools.product(range(1, 9), repeat=2):
            self.assertEqual(divisors(rows, columns, [0] * (rows * columns)), [0])

    def test_a_row_of_zero(self):
        for rows, columns in ((4, 4), (5, 3), (3, 5)):
            for place in range(rows):
                table = made_up_numbers(place, rows * columns, -50, 50)
                table[place * columns:(place + 1) * columns] = [0] * columns
                self.check(rows, columns, table)

    def test_columns_of_zero(self):
        for rows, columns in ((4, 4), (5, 3), (3, 5)):
            for one, other in itertools.product(range(columns), repeat=2):
                table = made_up_numbers(one, rows * columns, -50, 50)
                table[one::columns] = [0] * rows
                table[other::columns] = [0] * rows
                self.check(rows, columns, table)

    def test_a_single_number(self):
        for rows, columns in ((1, 8), (8, 1), (3, 4), (8, 8)):
            for place in range(rows * columns):
                table = [0] * (rows * columns)
                table[place] = -3
                self.assertEqual(divisors(rows, columns, table), [1, 3])


class TestRowsThatOthersMake(DivisorsCase):
    def test_two_rows_the_same(self):
        self.assertEqual(divisors(2, 2, [6, 4, 6, 4]), [1, 2])
        for one, other in itertools.combinations(range(4), 2):
            rows = [made_up_numbers(one + 10 * other + i, 5, -50, 50) for i in range(4)]
            rows[other] = list(rows[one])
            self.check(4, 5, joined(rows))

    def test_a_sum_of_multiples(self):
        for place in range(4):
            rows = [made_up_numbers(10 * place + i, 4, -50, 50) for i in range(3)]
            expected = divisors(3, 4, joined(rows))
            rows.insert(place, product([[3, -7, 2]], rows)[0])
            self.check(4, 4, joined(rows))
            self.assertEqual(divisors(4, 4, joined(rows)), expected)

    def test_a_sum_of_multiples_with_fractions(self):
        self.assertEqual(divisors(2, 3, [8, 12, -20, 12, 18, -30]), [1, 2])


class TestEdges(DivisorsCase):
    def test_one_number(self):
        self.assertEqual(divisors(1, 1, [LOWEST_SMALL]), [1, 32768])
        self.assertEqual(divisors(1, 1, [HIGHEST_SMALL]), [1, 32767])
        self.assertEqual(divisors(1, 1, [0]), [0])

    def test_one_row_and_one_column(self):
        for count in range(1, 9):
            for numbers in (made_up_numbers(count, count, LOWEST_SMALL, HIGHEST_SMALL), [30, 42, 70, 105][:count],
                            [0] * (count - 1) + [LOWEST_SMALL]):
                self.assertEqual(divisors(1, len(numbers), numbers), [1, math.gcd(*numbers)])
                self.assertEqual(divisors(len(numbers), 1, numbers), [1, math.gcd(*numbers)])

    def test_each_shape_in_range_is_answered(self):
        for rows, columns in itertools.product(range(1, 9), repeat=2):
            small = min(rows, columns)
            table = [2 if i == j else 0 for i in range(rows) for j in range(columns)]
            self.assertEqual(divisors(rows, columns, table), [small] + [2] * small)

    def test_lowest_and_highest(self):
        self.assertEqual(divisors(2, 2, [LOWEST_SMALL, HIGHEST_SMALL] * 2), [1, 1])
        self.assertEqual(divisors(2, 2, [LOWEST_SMALL] * 4), [1, 32768])
        self.assertEqual(divisors(2, 2, [LOWEST_SMALL, HIGHEST_SMALL, HIGHEST_SMALL, LOWEST_SMALL]), [2, 1, 65535])
        for rows, columns in ((2, 3), (3, 2), (4, 4), (5, 6), (6, 5)):
            for seed in range(4):
                choices = made_up_numbers(seed, rows * columns, 0, 1)
                self.check(rows, columns, [HIGHEST_SMALL if choice else LOWEST_SMALL for choice in choices])

    def test_eight_on_the_diagonal(self):
        self.assertEqual(divisors(8, 8, diagonal([LOWEST_SMALL] * 8)), [8] + [32768] * 8)
        self.assertEqual(divisors(8, 8, diagonal([LOWEST_SMALL, HIGHEST_SMALL] * 4)),
                         [8] + [1] * 4 + [32768 * 32767] * 4)

    def test_eight_full(self):
        for seed in range(3):
            table = made_up_numbers(seed, 64, LOWEST_SMALL, HIGHEST_SMALL)
            self.check(8, 8, table)
            self.assertGreater(divisors(8, 8, table)[8], 1 << 100)

    def test_eight_full_of_lowest_and_highest(self):
        for seed in range(3):
            choices = made_up_numbers(seed, 64, 0, 1)
            self.check(8, 8, [HIGHEST_SMALL if choice else LOWEST_SMALL for choice in choices])

    def test_eight_full_with_divisors_above_one(self):
        for seed in range(3):
            left = [[12 if i == j else 6 * (i < j) for j in range(8)] for i in range(8)]
            right = [made_up_numbers(10 * seed + i, 8, -300, 300) for i in range(8)]
            table = joined(product(left, right))
            self.check(8, 8, table)
            self.assertGreater(divisors(8, 8, table)[1], 1)

    def test_eight_full_of_each_smaller_rank(self):
        for inner in range(1, 8):
            left = [made_up_numbers(inner + 50 * i, inner, -60, 60) for i in range(8)]
            right = [made_up_numbers(inner + 70 * i, 8, -60, 60) for i in range(inner)]
            self.check(8, 8, joined(product(left, right)))

    def test_eight_rows_or_eight_columns(self):
        for other in (2, 3, 5, 7):
            self.check(8, other, made_up_numbers(other, 8 * other, LOWEST_SMALL, HIGHEST_SMALL))
            self.check(other, 8, made_up_numbers(other, 8 * other, LOWEST_SMALL, HIGHEST_SMALL))


class TestRefusals(unittest.TestCase):
    def test_rows_or_columns_out_of_range(self):
        for rows, columns in out_of_range(2, 8):
            self.assertEqual(divisors(rows, columns, []), [-2], (rows, columns))


class TestAsIfForTheFirstTime(AsIfForTheFirstTime, unittest.TestCase):
    call = staticmethod(divisors)
    calls = [(n, 9 - n, made_up_numbers(n, n * (9 - n), LOWEST_SMALL, HIGHEST_SMALL)) for n in range(1, 9)] + [
        (n, n, made_up_numbers(n, n * n, -high, high)) for n in range(1, 9) for high in (1, 32767)] + [
        (0, 1, []), (1, 9, []), (1, 1, [0]), (1, 1, [1]), (1, 2, [6, 10]), (2, 2, [0, 7, 1, 3]), (2, 2, [-4, 5, 0, -6]),
        (2, 2, [4, 0, 0, 6]), (8, 8, [0] * 64)]


if __name__ == "__main__":
    unittest.main()

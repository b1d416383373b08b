import itertools
import unittest

from tests.helper import (
    AsIfForTheFirstTime, HIGHEST_SMALL, LOWEST_SMALL, determinant_by_first_row, diagonal, joined, made_up_numbers,
    makes_by_minors, makes_by_replacing, out_of_range, product, same_by_minors, split)
from wholetables.tables import same


def in_range(table):
    return all(LOWEST_SMALL <= number <= HIGHEST_SMALL for number in table)


def same_row_by_row(columns, table, another):
    """Whether each of two tables makes all rows of the other, each row asked by itself."""
    return all(
        makes_by_minors(len(one) // columns, columns, one, row)
        for one, other in ((table, another), (another, table)) for row in split(columns, other))


def turnable(n, seed, high):
    """Rows of multiples that make n rows out of n, and that whole multiples of what comes out turn back."""
    upper = [[0] * i + [1] + made_up_numbers(seed + i, n - 1 - i, -high, high) for i in range(n)]
    lower = [made_up_numbers(seed + 9 * i, i, -high, high) + [(-1) ** i] + [0] * (n - 1 - i) for i in range(n)]
    return product(lower, upper)


class TestReference(unittest.TestCase):
    """The references are held against one another, and against tables worked out by hand."""

    def test_by_hand(self):
        for reference in (same_by_minors, same_row_by_row):
            self.assertTrue(reference(2, [2, 4], [-2, -4]))
            self.assertTrue(reference(2, [2, 4], [4, 8, 6, 12]))
            self.assertTrue(reference(2, [0, 0], [0, 0, 0, 0]))
            self.assertTrue(reference(2, [2, 0, 0, 3], [2, 3, 0, -3]))
            self.assertFalse(reference(2, [1, 2], [2, 4]))
            self.assertFalse(reference(2, [2, 4], [1, 2]))
            self.assertFalse(reference(2, [1, 2], [2, 1]))
            self.assertFalse(reference(2, [2, 0, 0, 1], [1, 0, 0, 2]))
            self.assertFalse(reference(2, [0, 0], [0, 1]))

    def test_against_one_another(self):
        for numbers in itertools.product((-2, 0, 1, 3), repeat=6):
            table, another = list(numbers[:4]), list(numbers[4:])
            self.assertEqual(same_by_minors(2, table, another), same_row_by_row(2, table, another), numbers)

    def test_turnable(self):
        for n in range(1, 9):
            self.assertEqual(abs(determinant_by_first_row(n, joined(turnable(n, n, 2)))), 1)


class SameCase(unittest.TestCase):
    def expect(self, answer, columns, table, another):
        """Ask of the two tables both ways round, and of each beside itself."""
        self.assertTrue(in_range(table) and in_range(another))
        rows, other_rows = len(table) // columns, len(another) // columns
        told = (rows, other_rows, columns, table, another)
        self.assertEqual(same(rows, other_rows, columns, table, another), [answer], told)
        self.assertEqual(same(other_rows, rows, columns, another, table), [answer], told)
        self.assertEqual(same(rows, rows, columns, table, list(table)), [1], told)

    def check(self, columns, table, another):
        answer = int(same_by_minors(columns, table, another))
        self.expect(answer, columns, table, another)
        return answer


class TestOrdinary(SameCase):
    def test_written_out(self):
        self.assertEqual(same(1, 1, 2, [1, 2], [2, 4]), [0])
        self.assertEqual(same(1, 1, 2, [2, 4], [1, 2]), [0])
        self.assertEqual(same(1, 1, 2, [1, 2], [-1, -2]), [1])
        self.assertEqual(same(1, 1, 2, [1, 2], [2, 1]), [0])
        self.assertEqual(same(2, 2, 2, [2, 0, 0, 3], [0, 3, 2, 0]), [1])
        self.assertEqual(same(2, 2, 2, [2, 0, 0, 3], [2, 3, 0, -3]), [1])
        self.assertEqual(same(2, 2, 2, [2, 0, 0, 3], [3, 0, 0, 2]), [0])
        self.assertEqual(same(2, 2, 2, [2, 0, 0, 3], [1, 0, 0, 6]), [0])
        self.assertEqual(same(2, 1, 1, [6, 10], [2]), [1])
        self.assertEqual(same(1, 2, 1, [3], [6, 10]), [0])
        self.assertEqual(same(2, 3, 2, [1, 0, 0, 1], [2, 1, 1, 1, 5, 7]), [1])
        self.assertEqual(same(2, 2, 3, [1, 2, 3, 4, 5, 6], [1, 2, 3, 3, 3, 3]), [1])
        self.assertEqual(same(2, 2, 3, [1, 2, 3, 4, 5, 6], [1, 2, 3, 1, 1, 1]), [0])

    def test_all_small_tables_of_two(self):
        tables = [list(table) for table in itertools.product((-2, 0, 1), repeat=4)]
        for one, other in itertools.combinations_with_replacement(tables, 2):
            self.check(2, one, other)

    def test_all_small_tables_of_one_and_two(self):
        for numbers in itertools.product((-2, 0, 1, 2), repeat=6):
            self.check(2, list(numbers[:2]), list(numbers[2:]))

    def test_made_up_tables_of_each_shape(self):
        answers = []
        for rows, other_rows, columns in itertools.product(range(1, 5), repeat=3):
            for seed in range(4):
                table = made_up_numbers(100 * rows + 10 * columns + seed, rows * columns, -1, 1)
                another = made_up_numbers(100 * other_rows + 10 * columns + 5 * seed, other_rows * columns, -2, 2)
                answers.append(self.check(columns, table, another))
        self.assertEqual(set(answers), {0, 1})


class TestTheSame(SameCase):
    def test_rows_in_another_order(self):
        for seed in range(3):
            rows = split(5, made_up_numbers(seed, 20, -99, 99))
            for order in itertools.permutations(rows):
                self.expect(1, 5, joined(rows), joined(order))

    def test_rows_added_and_taken_away(self):
        for one, other in itertools.permutations(range(4), 2):
            rows = split(4, made_up_numbers(10 * one + other, 16, -99, 99))
            for times in (1, -1, 2, -7):
                changed = [list(row) for row in rows]
                changed[one] = [a + times * b for a, b in zip(rows[one], rows[other])]
                self.expect(1, 4, joined(rows), joined(changed))

    def test_rows_turned_below_zero(self):
        rows = split(4, made_up_numbers(3, 12, 1, 99))
        for signs in itertools.product((1, -1), repeat=3):
            turned = [[sign * number for number in row] for sign, row in zip(signs, rows)]
            self.expect(1, 4, joined(rows), joined(turned))

    def test_rows_of_zero_put_in(self):
        for rows, columns in ((1, 1), (1, 4), (3, 3), (4, 2), (7, 8)):
            rows_of_it = split(columns, made_up_numbers(rows, rows * columns, -99, 99))
            for place in range(rows + 1):
                longer = rows_of_it[:place] + [[0] * columns] + rows_of_it[place:]
                self.expect(1, columns, joined(rows_of_it), joined(longer))

    def test_sums_of_multiples_put_in(self):
        for rows, columns in ((1, 1), (1, 4), (3, 3), (4, 2), (6, 8)):
            rows_of_it = split(columns, made_up_numbers(rows, rows * columns, -99, 99))
            more = product([made_up_numbers(rows + i, rows, -9, 9) for i in range(2)], rows_of_it)
            for place in range(rows + 1):
                longer = rows_of_it[:place] + more + rows_of_it[place:]
                self.expect(1, columns, joined(rows_of_it), joined(longer))

    def test_a_row_that_the_others_make_replaced_by_another(self):
        rows = split(4, made_up_numbers(8, 12, -99, 99))
        sums = product([[1, 2, 3], [-4, 0, 5]], rows)
        self.expect(1, 4, joined(rows + [sums[0]]), joined([sums[1]] + rows))

    def test_multiples_that_can_be_turned_back(self):
        for n in range(1, 9):
            for columns in (1, n, 8):
                rows = split(columns, made_up_numbers(n, n * columns, -99, 99))
                self.expect(1, columns, joined(rows), joined(product(turnable(n, n, 2), rows)))

    def test_no_row_in_common(self):
        self.expect(1, 2, [2, 1, 0, 3], [2, 4, 4, 5])
        self.expect(1, 3, [4, 6, -10, 6, 9, -15], [-2, -3, 5])
        self.expect(1, 1, [6, 10, 15], [-4, 7])


class TestNotTheSame(SameCase):
    def test_one_makes_all_rows_of_the_other(self):
        for n in range(1, 9):
            rows = split(8, made_up_numbers(n, n * 8, -99, 99))
            for place, times in itertools.product(range(n), (0, 2, -3)):
                fewer = [[times * number for number in row] if i == place else row for i, row in enumerate(rows)]
                self.expect(0, 8, joined(rows), joined(fewer))

    def test_neither_makes_all_rows_of_the_other(self):
        for n in range(2, 9):
            rows = split(8, made_up_numbers(n, n * 8, -99, 99))
            for one, other in itertools.combinations(range(n), 2):
                doubled = [
                    joined([[2 * number for number in row] if i == place else row for i, row in enumerate(rows)])
                    for place in (one, other)]
                self.expect(0, 8, doubled[0], doubled[1])

    def test_a_row_missing(self):
        rows = split(5, made_up_numbers(4, 20, -99, 99))
        for place in range(4):
            self.expect(0, 5, joined(rows), joined(rows[:place] + rows[place + 1:]))

    def test_the_same_rank_and_determinant_are_not_enough(self):
        self.expect(0, 2, [2, 0, 0, 2], [4, 0, 0, 1])
        self.expect(0, 2, [2, 0, 0, 3], [1, 0, 0, 6])

    def test_the_same_rank_and_divisors_are_not_enough(self):
        self.expect(0, 2, [2, 0, 0, 1], [1, 0, 0, 2])
        self.expect(0, 2, [2, 0, 0, 1], [1, 1, 0, 2])
        self.expect(0, 2, [2, 0, 0, 1], [1, 1, 3, 1, 2, 4])
        self.expect(0, 2, [1, 0], [0, 1])
        self.expect(0, 3, [1, 0, 0, 0, 1, 0], [1, 0, 0, 0, 0, 1])

    def test_multiples_with_fractions_are_not_enough(self):
        for n in range(1, 5):
            table = made_up_numbers(n, n * 4, -99, 99)
            self.expect(0, 4, table, [2 * number for number in table])
            self.expect(0, 4, [2 * number for number in table], [3 * number for number in table])

    def test_beside_one_another(self):
        table = [2, 1, 0, 3]
        for place, beside in itertools.product(range(4), (-1, 1)):
            other = table[:place] + [table[place] + beside] + table[place + 1:]
            self.expect(0, 2, table, other)


class TestBelowZero(SameCase):
    def test_numbers_below_zero_only(self):
        for rows, columns in ((1, 4), (4, 1), (2, 5), (5, 2), (3, 3)):
            rows_of_it = split(columns, made_up_numbers(rows, rows * columns, -50, -1))
            self.expect(1, columns, joined(rows_of_it), joined(reversed(rows_of_it)))
            self.expect(1, columns, joined(rows_of_it), [-number for number in joined(rows_of_it)])
            self.check(columns, joined(rows_of_it), made_up_numbers(columns, rows * columns, -50, -1))

    def test_only_a_part_of_a_row_turned_below_zero(self):
        self.expect(0, 2, [1, 2], [1, -2])
        self.expect(0, 3, [1, 0, 2, 0, 1, 5], [1, 0, -2, 0, 1, 5])
        for columns in range(2, 9):
            numbers = made_up_numbers(columns, columns, 1, 99)
            for place in range(columns):
                self.expect(0, columns, numbers, numbers[:place] + [-numbers[place]] + numbers[place + 1:])


class TestZeros(SameCase):
    def test_both_nothing_but_zero(self):
        for rows, other_rows, columns in itertools.product(range(1, 9), repeat=3):
            told = (rows, other_rows, columns)
            answer = same(rows, other_rows, columns, [0] * (rows * columns), [0] * (other_rows * columns))
            self.assertEqual(answer, [1], told)

    def test_one_nothing_but_zero(self):
        for rows, columns in ((1, 1), (1, 8), (8, 1), (3, 4)):
            for place, number in itertools.product(range(rows * columns), (1, -1, LOWEST_SMALL, HIGHEST_SMALL)):
                table = [0] * (rows * columns)
                table[place] = number
                for other_rows in (1, 2, 8):
                    self.expect(0, columns, table, [0] * (other_rows * columns))

    def test_columns_of_zero(self):
        for one, other in itertools.product(range(3), repeat=2):
            table, another = made_up_numbers(7, 12, 1, 9), made_up_numbers(7, 12, 1, 9)
            table[one::3] = [0] * 4
            another[other::3] = [0] * 4
            self.expect(int(one == other), 3, table, another)

    def test_a_column_passed_over(self):
        self.expect(1, 3, [2, 4, 1, 2, 4, 4], [2, 4, 1, 0, 0, 3])
        self.expect(0, 3, [2, 4, 1, 2, 4, 4], [2, 5, 1, 0, 0, 3])
        self.expect(0, 3, [2, 4, 1, 2, 4, 4], [2, 4, 1, 0, 3, 0])


class TestEdges(SameCase):
    def test_one_number(self):
        self.expect(1, 1, [LOWEST_SMALL], [LOWEST_SMALL])
        self.expect(1, 1, [HIGHEST_SMALL], [-HIGHEST_SMALL])
        self.expect(0, 1, [LOWEST_SMALL], [HIGHEST_SMALL])
        self.expect(1, 1, [LOWEST_SMALL, HIGHEST_SMALL], [1])
        self.expect(1, 1, [0], [0])
        self.expect(0, 1, [0], [1])

    def test_one_row_and_one_column(self):
        for count in range(1, 9):
            numbers = made_up_numbers(count, count, 1, HIGHEST_SMALL)
            self.expect(1, count, numbers, [-number for number in numbers])
            self.expect(0, count, numbers, numbers[:-1] + [numbers[-1] - 1])
            sixes = [6 * number for number in range(count, 0, -1)]
            self.expect(1, 1, sixes, [-6])
            self.expect(0, 1, sixes, [2])
            self.expect(0, 1, sixes, [12, 18, 3])

    def test_each_shape_in_range_is_answered(self):
        for rows, other_rows, columns in itertools.product(range(1, 9), repeat=3):
            table = [2 if i == j else 0 for i in range(rows) for j in range(columns)]
            another = [-2 if i == j else 0 for i in range(other_rows) for j in range(columns)]
            told = (rows, other_rows, columns)
            expected = [int(min(rows, columns) == min(other_rows, columns))]
            self.assertEqual(same(rows, other_rows, columns, table, another), expected, told)

    def test_lowest_and_highest(self):
        table = [LOWEST_SMALL, HIGHEST_SMALL, HIGHEST_SMALL, LOWEST_SMALL]
        self.expect(1, 2, table, table[2:] + table[:2])
        self.expect(1, 2, table, [-1, -1] + table[2:])
        self.expect(0, 2, table, [1, 0, 0, 1])
        self.expect(0, 2, table, [LOWEST_SMALL, HIGHEST_SMALL] * 2)
        answers = []
        for rows, other_rows, columns in ((2, 2, 3), (3, 2, 2), (4, 4, 4), (5, 4, 3), (6, 5, 1)):
            for seed in range(3):
                tables = [
                    [HIGHEST_SMALL if choice else LOWEST_SMALL for choice in made_up_numbers(start, count, 0, 1)]
                    for start, count in ((seed, rows * columns), (seed + 9, other_rows * columns))]
                answers.append(self.check(columns, tables[0], tables[1]))
        self.assertEqual(set(answers), {0, 1})

    def test_eight_on_the_diagonal(self):
        table = diagonal([LOWEST_SMALL, HIGHEST_SMALL] * 4)
        self.expect(1, 8, table, diagonal([LOWEST_SMALL, -HIGHEST_SMALL] * 4))
        self.expect(0, 8, table, diagonal([HIGHEST_SMALL, LOWEST_SMALL] * 4))
        self.expect(0, 8, table, diagonal([LOWEST_SMALL, HIGHEST_SMALL] * 3 + [LOWEST_SMALL, 1]))


class TestEightFull(SameCase):
    def full_rows(self, seed):
        table = made_up_numbers(seed, 64, LOWEST_SMALL, HIGHEST_SMALL)
        self.assertNotEqual(determinant_by_first_row(8, table), 0)
        return split(8, table)

    def test_rows_in_another_order(self):
        for seed in range(3):
            rows = self.full_rows(seed)
            self.expect(1, 8, joined(rows), joined(rows[::-1]))
            self.expect(1, 8, joined(rows), joined(rows[3:] + rows[:3]))

    def test_rows_taken_away_and_turned_below_zero(self):
        for seed in range(3):
            rows = split(8, made_up_numbers(seed, 64, -16383, 16383))
            changed = [rows[0]] + [[a - b for a, b in zip(*pair)] for pair in zip(rows, rows[1:])]
            changed = [[-number for number in row] for row in changed]
            self.expect(1, 8, joined(rows), joined(changed))

    def test_beside_one_another(self):
        for seed in range(3):
            table = joined(self.full_rows(seed))
            for place in range(0, 64, 9):
                beside = 1 if table[place] < HIGHEST_SMALL else -1
                other = table[:place] + [table[place] + beside] + table[place + 1:]
                self.assertFalse(makes_by_replacing(8, table, split(8, other)[place // 8]))
                self.expect(0, 8, table, other)

    def test_two_that_have_nothing_to_do_with_one_another(self):
        for seed in range(3):
            table, another = joined(self.full_rows(seed)), joined(self.full_rows(seed + 20))
            self.assertFalse(all(makes_by_replacing(8, table, row) for row in split(8, another)))
            self.expect(0, 8, table, another)

    def test_all_that_make_every_row(self):
        for seed in range(4):
            table = joined(turnable(8, seed, 3))
            self.expect(1, 8, table, diagonal([1] * 8))
            self.expect(1, 8, table, joined(turnable(8, seed + 50, 3)))
            self.expect(0, 8, table, diagonal([1] * 7 + [2]))

    def test_a_determinant_of_three(self):
        # All of these have the same divisors, and only the ones turned out of the same rows make the same.
        for seed in range(3):
            tables = [joined(product(turnable(8, seed, 2), split(8, diagonal(numbers)))) for numbers in (
                [3] + [1] * 7, [1] * 4 + [3] + [1] * 3, [1] * 7 + [-3])]
            for one, other in itertools.combinations(tables, 2):
                self.expect(0, 8, one, other)
            self.expect(1, 8, tables[1], diagonal([1] * 4 + [3] + [1] * 3))

    def test_of_a_smaller_rank(self):
        for inner in (1, 4, 7):
            right = split(8, made_up_numbers(inner, 8 * inner, -60, 60))
            left = turnable(inner, inner, 1) + split(inner, made_up_numbers(7 * inner, (8 - inner) * inner, -9, 9))
            table = joined(product(left, right))
            self.expect(1, 8, table, joined(right))
            self.expect(1, 8, table, joined(product(left[::-1], right)))
            doubled = [[2 * number for number in right[0]]] + right[1:]
            self.expect(0, 8, table, joined(doubled))
            self.expect(0, 8, table, joined(product(left, doubled)))


class TestRefusals(unittest.TestCase):
    def test_rows_or_columns_out_of_range(self):
        for rows, other_rows, columns in out_of_range(3, 8):
            self.assertEqual(same(rows, other_rows, columns, [], []), [-2], (rows, other_rows, columns))


class TestAsIfForTheFirstTime(AsIfForTheFirstTime, unittest.TestCase):
    call = staticmethod(same)
    calls = [
        (n, 9 - n, m, made_up_numbers(n, n * m, LOWEST_SMALL, HIGHEST_SMALL), made_up_numbers(n, (9 - n) * m, -9, 9))
        for n in range(1, 9) for m in (1, 5, 8)] + [
        (n, n, n, made_up_numbers(n, n * n, -1, 1), made_up_numbers(n, n * n, -1, 1)[::-1]) for n in range(1, 9)] + [
        (0, 1, 1, [], []), (1, 9, 1, [], []), (1, 1, -1, [], []), (1, 1, 1, [0], [0]), (1, 1, 1, [4], [-4]),
        (1, 1, 2, [1, 2], [2, 4]), (2, 2, 2, [-4, 5, 0, -6], [4, 7, 4, 1]), (2, 1, 2, [0, 7, 1, 3], [1, 4]),
        (8, 8, 8, [0] * 64, [0] * 64)]

    def test_a_list_beside_itself(self):
        for rows, other_rows, columns, table, another in self.calls:
            if table:
                self.assertEqual(same(rows, rows, columns, table, table), [1])


if __name__ == "__main__":
    unittest.main()

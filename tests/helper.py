"""What several tests need: the document's words as they stand, made-up numbers, and what holds for every call."""
import contextlib
import io
import itertools
import math
import sys

LOWEST = -9223372036854775808
HIGHEST = 9223372036854775807
LOWEST_SMALL = -32768
HIGHEST_SMALL = 32767


def determinant_by_first_row(n, table):
    """The determinant as the document's words define it: by the first row, over the columns that are left.

    The determinant of the lowest rows depends only on which columns are left, so each such choice is
    worked out once, from no row upwards; that is what makes n = 16 reachable.
    """
    known = {0: 1}
    for left in range(1, 1 << n):
        columns = [c for c in range(n) if left >> c & 1]
        first_row = n - len(columns)
        known[left] = sum(
            (-1) ** j * table[first_row * n + c] * known[left & ~(1 << c)]
            for j, c in enumerate(columns)
        )
    return known[(1 << n) - 1]


def minors(rows, columns, table):
    """For each k, from 0, all k-minors of a table, each by the first of its rows as the document's words define it."""
    smaller = {((), ()): 1}
    by_size = [[1]]
    for k in range(1, min(rows, columns) + 1):
        larger = {}
        for some_rows in itertools.combinations(range(rows), k):
            start = some_rows[0] * columns
            for some_columns in itertools.combinations(range(columns), k):
                larger[some_rows, some_columns] = sum(
                    (-1) ** j * table[start + c] * smaller[some_rows[1:], some_columns[:j] + some_columns[j + 1:]]
                    for j, c in enumerate(some_columns)
                )
        by_size.append(list(larger.values()))
        smaller = larger
    return by_size


def rank_by_minors(rows, columns, table):
    """The greatest k such that the table has a k-minor that isn't 0."""
    return max(k for k, sized in enumerate(minors(rows, columns, table)) if any(sized))


def first_place(row):
    """Where the row's first number that isn't 0 stands; None in a row of nothing but 0."""
    return next((place for place, number in enumerate(row) if number != 0), None)


def is_normal(rows):
    """Whether a table, as a list of its rows, is normal as the document's words say."""
    places = [first_place(row) for row in rows]
    return (
        None not in places
        and all(row[place] > 0 for row, place in zip(rows, places))
        and all(upper < lower for upper, lower in zip(places, places[1:]))
        and all(0 <= rows[above][place] < rows[i][place] for i, place in enumerate(places) for above in range(i))
    )


def multiples_in_normal(normal_rows, row):
    """The multiples of a normal table's rows whose sum is this row; None if there are none.

    From above down, each multiple is settled by the place where its row leads: no row further down reaches it.
    """
    multiples = []
    left = list(row)
    for step in normal_rows:
        place = first_place(step)
        multiples.append(left[place] // step[place])
        left = [number - multiples[-1] * taken for number, taken in zip(left, step)]
    return None if any(left) else multiples


def makes_by_minors(rows, columns, table, row):
    """Whether a table makes a row, told by minors alone.

    With the row added, a table has the same rank k if fractions may be used. Then whole multiples are enough just
    where its k-minors have the same greatest common divisor as before.
    """
    before = [math.gcd(*sized) for sized in minors(rows, columns, table)]
    after = [math.gcd(*sized) for sized in minors(rows + 1, columns, table + row)]
    k = rank_by_minors(rows, columns, table)
    return after[k] == before[k] and not any(after[k + 1:])


def makes_by_replacing(n, table, row):
    """Whether a table of n rows and n columns makes a row, where its determinant isn't 0.

    Each row's multiple is the determinant with the row in that row's place, divided by the determinant.
    """
    whole = determinant_by_first_row(n, table)
    replaced = [table[:i * n] + row + table[(i + 1) * n:] for i in range(n)]
    return all(determinant_by_first_row(n, each) % whole == 0 for each in replaced)


def same_by_minors(columns, table, another):
    """Whether two tables make the same rows, told by minors alone.

    One below the other, they make all that either makes. That is no more than one of them makes by itself just where
    it has the same rank k, and its k-minors the same greatest common divisor.
    """
    measures = []
    for each in (table, another, table + another):
        sized = minors(len(each) // columns, columns, each)
        k = max(size for size, numbers in enumerate(sized) if any(numbers))
        measures.append((k, math.gcd(*sized[k])))
    return measures[0] == measures[1] == measures[2]


def made_up_numbers(seed, count, low, high):
    """Count numbers from low to high, the same ones for the same seed on every Python."""
    state = seed
    numbers = []
    for _ in range(count):
        state = (state * 6364136223846793005 + 1442695040888963407) % (1 << 128)
        numbers.append(low + (state >> 40) % (high - low + 1))
    return numbers


def diagonal(numbers):
    """A table with these numbers on its diagonal and 0 elsewhere."""
    n = len(numbers)
    return [numbers[i] if i == j else 0 for i in range(n) for j in range(n)]


def split(columns, table):
    """The table's rows, each by itself."""
    return [table[start:start + columns] for start in range(0, len(table), columns)]


def joined(rows):
    """The rows as one table, row after row."""
    return [number for row in rows for number in row]


def product(rows, others):
    """The rows that the multiples in each of `rows` make of the others."""
    return [[sum(a * b for a, b in zip(row, column)) for column in zip(*others)] for row in rows]


def out_of_range(count, most):
    """Each choice of `count` sizes, one or more of them out of the range of 1 to most."""
    wrong = (0, most + 1, -1, -2147483648, 2147483647)
    choices = itertools.product(wrong + (1, most), repeat=count)
    return [sizes for sizes in choices if any(size in wrong for size in sizes)]


def refuse(*args, **kwargs):
    raise AssertionError("what was handed in was changed")


class Untouchable(list):
    """A list that fails the test as soon as anything tries to change it, even for a while."""

    __setitem__ = __delitem__ = __iadd__ = __imul__ = refuse
    append = clear = extend = insert = pop = remove = reverse = sort = refuse


def deepest_call(call, handed_in):
    """How many calls stand within one another, at most, while this one is worked out."""
    depths = [0, 0]

    def watch(frame, event, arg):
        depths[0] += {"call": 1, "return": -1}.get(event, 0)
        depths[1] = max(depths)

    before = sys.getprofile()
    sys.setprofile(watch)
    try:
        call(*handed_in)
    finally:
        sys.setprofile(before)
    return depths[1]


class AsIfForTheFirstTime:
    """What holds for every call. A class of tests that takes this in has its `call`, and what is handed in, `calls`.

    Among `calls` stand refusals, tables of up to 4 numbers and larger ones.
    """

    def answers(self, calls):
        return [self.call(*handed_in) for handed_in in calls]

    def test_what_is_handed_in_is_never_changed(self):
        for handed_in in self.calls:
            watched = [Untouchable(each) if isinstance(each, list) else each for each in handed_in]
            self.assertEqual(self.call(*watched), self.call(*handed_in))
            self.assertEqual(watched, list(handed_in))

    def test_the_list_given_back_is_a_new_one(self):
        for handed_in in self.calls:
            first = self.call(*handed_in)
            expected = list(first)
            for each in handed_in:
                self.assertIsNot(first, each)
            first.append(99)
            first[0] = 98
            self.assertEqual(self.call(*handed_in), expected)

    def test_the_same_again_with_others_between(self):
        forth = self.answers(self.calls)
        back = self.answers(reversed(self.calls))
        twice = self.answers(handed_in for handed_in in self.calls for _ in range(2))
        self.assertEqual(back[::-1], forth)
        self.assertEqual(twice[::2], forth)
        self.assertEqual(twice[1::2], forth)

    def test_kinds(self):
        for answer in self.answers(self.calls):
            self.assertIs(type(answer), list)
            for number in answer:
                self.assertIs(type(number), int)

    def test_nothing_is_printed(self):
        out, err = io.StringIO(), io.StringIO()
        with contextlib.redirect_stdout(out), contextlib.redirect_stderr(err):
            self.answers(self.calls)
        self.assertEqual((out.getvalue(), err.getvalue()), ("", ""))

    def test_calls_are_nested_no_deeper_for_larger_tables(self):
        depths = {False: 0, True: 0}
        for handed_in in self.calls:
            large = any(isinstance(each, list) and len(each) > 4 for each in handed_in)
            depths[large] = max(depths[large], deepest_call(self.call, handed_in))
        self.assertGreater(depths[True], 0)
        self.assertLessEqual(depths[True], depths[False])

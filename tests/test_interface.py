"""What the document promises over the whole program: its names, the ranges, and the calls beside one another."""
import ast
import inspect
import itertools
import math
import pathlib
import re
import subprocess
import sys
import unittest

from tests.helper import AsIfForTheFirstTime, HIGHEST_SMALL, LOWEST_SMALL, joined, made_up_numbers, product, split
from wholetables import tables

TOP = pathlib.Path(__file__).resolve().parent.parent

PARAMETERS = {
    "determinant": ["n", "table"],
    "rank": ["rows", "columns", "table"],
    "normal": ["rows", "columns", "table"],
    "divisors": ["rows", "columns", "table"],
    "makes": ["rows", "columns", "table", "row"],
    "same": ["rows", "other_rows", "columns", "table", "another"],
}

LISTS = ("table", "row", "another")

MOST = {"determinant": 16, "rank": 16, "normal": 8, "divisors": 8, "makes": 8, "same": 8}


def sizes_of(name):
    return [each for each in PARAMETERS[name] if each not in LISTS]


def lists_for(name, sizes):
    """Lists of nothing but 0, as long as the sizes, told by their names, ask for."""
    columns = sizes.get("columns", sizes.get("n"))
    lengths = {
        "table": sizes.get("rows", columns) * columns, "row": columns, "another": sizes.get("other_rows", 0) * columns}
    return {each: [0] * lengths[each] for each in PARAMETERS[name] if each in LISTS}


def readme_examples():
    """The calls that stand in the README, each as its name, what is handed in, and the answer that stands behind."""
    found = []
    for line in (TOP / "README.md").read_text().split("\n"):
        match = re.fullmatch(r"(\w+)(\(.*\)) +# (\[.*\])", line)
        if match:
            found.append((match.group(1), ast.literal_eval(match.group(2)), ast.literal_eval(match.group(3))))
    return found


class TestNames(unittest.TestCase):
    def test_parameters(self):
        for name, parameters in PARAMETERS.items():
            signature = inspect.signature(getattr(tables, name))
            self.assertEqual(list(signature.parameters), parameters)
            for each in signature.parameters.values():
                self.assertEqual((each.kind, each.default), (each.POSITIONAL_OR_KEYWORD, each.empty))

    def test_handed_in_by_name(self):
        self.assertEqual(tables.determinant(n=1, table=[7]), [0, 7])
        self.assertEqual(tables.rank(rows=1, columns=2, table=[7, 0]), [1])
        self.assertEqual(tables.normal(rows=1, columns=2, table=[7, 0]), [1, 7, 0])
        self.assertEqual(tables.divisors(rows=1, columns=2, table=[7, 0]), [1, 7])
        self.assertEqual(tables.makes(rows=1, columns=2, table=[7, 0], row=[-7, 0]), [1])
        self.assertEqual(tables.same(rows=1, other_rows=2, columns=2, table=[7, 0], another=[0, 0, 7, 0]), [1])

    def test_nothing_else_is_imported(self):
        asked = (
            "import sys\nbefore = set(sys.modules)\nimport wholetables.tables\n"
            "print(sorted(set(sys.modules) - before))")
        ran = subprocess.run([sys.executable, "-c", asked], cwd=TOP, capture_output=True, text=True, check=True)
        self.assertEqual((ran.stdout, ran.stderr), ("['wholetables', 'wholetables.tables']\n", ""))


class TestRanges(unittest.TestCase):
    def test_the_least_and_the_most_are_answered(self):
        for name, most in MOST.items():
            for chosen in itertools.product((1, most), repeat=len(sizes_of(name))):
                sizes = dict(zip(sizes_of(name), chosen))
                answer = getattr(tables, name)(**sizes, **lists_for(name, sizes))
                expected = {"determinant": [0, 0], "makes": [1], "same": [1]}.get(name, [0])
                self.assertEqual(answer, expected, (name, sizes))

    def test_each_size_out_of_range_is_refused(self):
        for name, most in MOST.items():
            empty = {each: [] for each in PARAMETERS[name] if each in LISTS}
            for each, wrong in itertools.product(sizes_of(name), (0, most + 1, -1, -2147483648, 2147483647)):
                sizes = dict.fromkeys(sizes_of(name), most)
                sizes[each] = wrong
                self.assertEqual(getattr(tables, name)(**sizes, **empty), [-2], (name, sizes))


class TestReadme(unittest.TestCase):
    def test_each_call_stands_there(self):
        self.assertEqual({name for name, handed_in, answer in readme_examples()}, set(PARAMETERS))

    def test_the_answers_are_the_ones_told(self):
        for name, handed_in, answer in readme_examples():
            self.assertEqual(getattr(tables, name)(*handed_in), answer, (name, handed_in))


class TestBesideOneAnother(unittest.TestCase):
    """Where the document's words tie two calls together, their answers fit."""

    def made_up_tables(self):
        for rows, columns in itertools.product(range(1, 9), repeat=2):
            for high in (1, 9, 32767):
                yield rows, columns, made_up_numbers(10 * rows + columns, rows * columns, -high, high)
            inner = (rows + columns) // 4 + 1
            left = split(inner, made_up_numbers(rows, rows * inner, -30, 30))
            right = split(columns, made_up_numbers(columns, inner * columns, -30, 30))
            yield rows, columns, joined(product(left, right))

    def test_the_rank_is_the_same_for_all(self):
        for rows, columns, table in self.made_up_tables():
            told = (rows, columns, table)
            answer = tables.rank(rows, columns, table)
            self.assertEqual(tables.normal(rows, columns, table)[:1], answer, told)
            self.assertEqual(tables.divisors(rows, columns, table)[:1], answer, told)

    def test_the_determinant_is_the_product_of_all_divisors(self):
        for rows, columns, table in self.made_up_tables():
            if rows == columns:
                divisors = tables.divisors(rows, columns, table)
                expected = math.prod(divisors[1:]) if divisors[0] == rows else 0
                self.assertEqual(abs(tables.determinant(rows, table)[1]), expected, (rows, table))

    def test_the_normal_table_makes_the_same(self):
        compared = 0
        for rows, columns, table in self.made_up_tables():
            answer = tables.normal(rows, columns, table)
            for row in split(columns, answer[1:]):
                if max(map(abs, row)) < 1 << 63:
                    self.assertEqual(tables.makes(rows, columns, table, row), [1], (rows, columns, table))
            if answer[0] > 0 and all(LOWEST_SMALL <= number <= HIGHEST_SMALL for number in answer[1:]):
                self.assertEqual(tables.same(rows, answer[0], columns, table, answer[1:]), [1])
                compared += 1
        self.assertGreater(compared, 50)

    def test_a_row_that_is_made_adds_nothing(self):
        answers = set()
        for rows, columns, table in self.made_up_tables():
            for seed, high in itertools.product(range(3), (1, 30)):
                row = made_up_numbers(seed, columns, -high, high)
                answer = tables.makes(rows, columns, table, row)
                answers.update(answer)
                if rows < 8:
                    self.assertEqual(tables.same(rows, rows + 1, columns, table, table + row), answer)
        self.assertEqual(answers, {0, 1})


class TestAllAsIfForTheFirstTime(AsIfForTheFirstTime, unittest.TestCase):
    """All the calls between one another, as if they were one."""

    calls = [(name,) + handed_in for name, handed_in, answer in readme_examples()] + [
        ("determinant", n, made_up_numbers(n, n * n, -9, 9)) for n in range(1, 9)] + [
        (name, n, 9 - n, made_up_numbers(n, n * (9 - n), LOWEST_SMALL, HIGHEST_SMALL))
        for n in range(1, 9) for name in ("rank", "normal", "divisors")] + [
        ("makes", n, 8, made_up_numbers(n, n * 8, -9, 9), made_up_numbers(n, 8, -9, 9)) for n in range(1, 9)] + [
        ("same", n, 3, 8, made_up_numbers(n, n * 8, -9, 9), made_up_numbers(n, 24, -9, 9)) for n in range(1, 9)]

    @staticmethod
    def call(name, *handed_in):
        return getattr(tables, name)(*handed_in)


if __name__ == "__main__":
    unittest.main()

"""The calls: each takes sizes and tables of whole numbers and answers a list of whole numbers."""

REFUSED = -2
MOST_LARGE = 16


def determinant(n, table):
    """Answer 0 and the determinant of a table of n rows and n columns, or the refusal alone."""
    if n < 1 or n > MOST_LARGE:
        return [REFUSED]
    return [0, determinant_of(split_rows(n, n, table))]


def split_rows(rows, columns, table):
    """Cut a table into a new list of new rows."""
    return [table[i * columns:(i + 1) * columns] for i in range(rows)]


def determinant_of(square):
    """The determinant of a list of rows, each as long as the list."""
    rest = square
    sign = 1
    divisor = 1
    while len(rest) > 0:
        place = first_leading(rest)
        if place == len(rest):
            return 0
        # The chosen row moves up past `place` others, and each of them turns the sign.
        if place % 2 == 1:
            sign = -sign
        chosen = rest[place]
        others = rest[:place] + rest[place + 1:]
        rest = [step_down(chosen, row, divisor) for row in others]
        divisor = chosen[0]
    return sign * divisor


def first_leading(rows):
    """The place of the first row that begins with another number than 0; the number of rows if there is none."""
    for place, row in enumerate(rows):
        if row[0] != 0:
            return place
    return len(rows)


def step_down(chosen, row, divisor):
    """Clear the row's first number by the chosen row, and give back what stands behind it."""
    # With the last chosen row's first number as the divisor (1 at the start), what comes out is a minor of the
    # table, up to its sign: so nothing is left over in the division, and the numbers stay as short as minors are.
    return [(chosen[0] * row[j] - row[0] * chosen[j]) // divisor for j in range(1, len(row))]

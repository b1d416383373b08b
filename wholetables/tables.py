"""The calls: each takes sizes and tables of whole numbers and answers a list of whole numbers."""

REFUSED = -2
MOST_LARGE = 16


def determinant(n, table):
    """Answer 0 and the determinant of a table of n rows and n columns, or the refusal alone."""
    if not within(n, MOST_LARGE):
        return [REFUSED]
    return [0, determinant_of(split_rows(n, n, table))]


def rank(rows, columns, table):
    """Answer the rank of a table, or the refusal alone."""
    if not within(rows, MOST_LARGE) or not within(columns, MOST_LARGE):
        return [REFUSED]
    return [rank_of(split_rows(rows, columns, table))]


def within(size, most):
    """Whether a size is from 1 to the most that is allowed."""
    return size >= 1 and size <= most


def split_rows(rows, columns, table):
    """Cut a table into a new list of new rows."""
    return [table[i * columns:(i + 1) * columns] for i in range(rows)]


def determinant_of(square):
    """The determinant of a list of rows, each as long as the list."""
    rest = square
    sign = 1
    divisor = 1
    while len(rest) > 0:
        place = first_leading(rest)
        if place == len(rest):
            return 0
        # The chosen row moves up past `place` others, and each of them turns the sign.
        if place % 2 == 1:
            sign = -sign
        lead = rest[place][0]
        rest = clear_others(rest, place, divisor)
        divisor = lead
    return sign * divisor


def rank_of(rows):
    """The rank of a list of rows that are as long as one another."""
    rest = rows
    divisor = 1
    chosen = 0
    while len(rest) > 0 and len(rest[0]) > 0:
        place = first_leading(rest)
        if place == len(rest):
            # No row was chosen by this column of nothing but 0, so the divisor stays the last chosen row's.
            rest = [row[1:] for row in rest]
        else:
            lead = rest[place][0]
            rest = clear_others(rest, place, divisor)
            divisor = lead
            chosen += 1
    return chosen


def first_leading(rows):
    """The place of the first row that begins with another number than 0; the number of rows if there is none."""
    for place, row in enumerate(rows):
        if row[0] != 0:
            return place
    return len(rows)


def clear_others(rows, place, divisor):
    """What is left of the other rows when the row at this place has cleared their first numbers."""
    chosen = rows[place]
    others = rows[:place] + rows[place + 1:]
    return [step_down(chosen, row, divisor) for row in others]


def step_down(chosen, row, divisor):
    """Clear the row's first number by the chosen row, and give back what stands behind it."""
    # With the last chosen row's first number as the divisor (1 at the start), what comes out is a minor of the
    # table, up to its sign: so nothing is left over in the division, and the numbers stay as short as minors are.
    return [(chosen[0] * row[j] - row[0] * chosen[j]) // divisor for j in range(1, len(row))]

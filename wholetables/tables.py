"""The calls: each takes sizes and tables of whole numbers and answers a list of whole numbers."""

REFUSED = -2
MOST_LARGE = 16
MOST_SMALL = 8


def determinant(n, table):
    """Answer 0 and the determinant of a table of n rows and n columns, or the refusal alone."""
    if not within(n, MOST_LARGE):
        return [REFUSED]
    return [0, determinant_of(split_rows(n, n, table))]


def rank(rows, columns, table):
    """Answer the rank of a table, or the refusal alone."""
    if not within(rows, MOST_LARGE) or not within(columns, MOST_LARGE):
        return [REFUSED]
    return [rank_of(split_rows(rows, columns, table))]


def normal(rows, columns, table):
    """Answer the rank, then the normal table that makes just the rows that the table makes, or the refusal alone."""
    if not within(rows, MOST_SMALL) or not within(columns, MOST_SMALL):
        return [REFUSED]
    stairs = normal_of(split_rows(rows, columns, table))
    answer = [len(stairs)]
    for row in stairs:
        answer.extend(row)
    return answer


def divisors(rows, columns, table):
    """Answer the rank, then as many divisors, or the refusal alone."""
    if not within(rows, MOST_SMALL) or not within(columns, MOST_SMALL):
        return [REFUSED]
    found = divisors_of(split_rows(rows, columns, table))
    return [len(found)] + found


def makes(rows, columns, table, row):
    """Answer 1 where the table makes the row, else 0; or the refusal alone."""
    if not within(rows, MOST_SMALL) or not within(columns, MOST_SMALL):
        return [REFUSED]
    # Where a normal row leads, the lessened row has from 0 to less than that lead; of all the rows that are made, only
    # the one of nothing but 0 has that at every such place.
    left = lessen(row, normal_of(split_rows(rows, columns, table)))
    return [0 if any(left) else 1]


def same(rows, other_rows, columns, table, another):
    """Answer 1 where both tables make the same rows, else 0; or the refusal alone."""
    if not within(rows, MOST_SMALL) or not within(other_rows, MOST_SMALL) or not within(columns, MOST_SMALL):
        return [REFUSED]
    # Only one normal table makes just the rows that a table makes, so tables that make the same rows share it.
    first = normal_of(split_rows(rows, columns, table))
    second = normal_of(split_rows(other_rows, columns, another))
    return [1 if first == second else 0]


def within(size, most):
    """Whether a size is from 1 to the most that is allowed."""
    return size >= 1 and size <= most


def split_rows(rows, columns, table):
    """Cut a table into a new list of new rows."""
    return [table[i * columns:(i + 1) * columns] for i in range(rows)]


def column_at(rows, place):
    """What stands at this place of each row, from above down."""
    return [row[place] for row in rows]


def determinant_of(square):
    """The determinant of a list of rows, each as long as the list."""
    rest = square
    sign = 1
    divisor = 1
    while len(rest) > 0:
        place = first_place(column_at(rest, 0))
        if place == len(rest):
            return 0
        # The chosen row moves up past `place` others, and each of them turns the sign.
        if place % 2 == 1:
            sign = -sign
        lead = rest[place][0]
        rest = clear_others(rest, place, divisor)
        divisor = lead
    return sign * divisor


def rank_of(rows):
    """The rank of a list of rows that are as long as one another."""
    rest = rows
    divisor = 1
    chosen = 0
    while len(rest) > 0 and len(rest[0]) > 0:
        place = first_place(column_at(rest, 0))
        if place == len(rest):
            # No row was chosen by this column of nothing but 0, so the divisor stays the last chosen row's.
            rest = [row[1:] for row in rest]
        else:
            lead = rest[place][0]
            rest = clear_others(rest, place, divisor)
            divisor = lead
            chosen += 1
    return chosen


def first_place(numbers):
    """The place of the first number that isn't 0; how many numbers there are if there is none."""
    for place, number in enumerate(numbers):
        if number != 0:
            return place
    return len(numbers)


def clear_others(rows, place, divisor):
    """What is left of the other rows when the row at this place has cleared their first numbers."""
    chosen = rows[place]
    others = rows[:place] + rows[place + 1:]
    return [step_down(chosen, row, divisor) for row in others]


def step_down(chosen, row, divisor):
    """Clear the row's first number by the chosen row, and give back what stands behind it."""
    # With the last chosen row's first number as the divisor (1 at the start), what comes out is a minor of the
    # table, up to its sign: so nothing is left over in the division, and the numbers stay as short as minors are.
    return [(chosen[0] * row[j] - row[0] * chosen[j]) // divisor for j in range(1, len(row))]


def normal_of(rows):
    """The rows of the normal table that makes just the rows that these make."""
    stairs = []
    for row in rows:
        # If the table were made normal only at the end, the numbers would grow far longer on the way.
        stairs = lessen_above(add_row(stairs, row))
    return stairs


def add_row(stairs, row):
    """Stairs, rows that lead further and further to the right, that make just what the stairs and the row make."""
    longer = []
    rest = row
    for step in stairs:
        pair = clear_second(step, rest, min(first_place(step), first_place(rest)))
        longer.append(pair[0])
        rest = pair[1]
    if first_place(rest) < len(rest):
        longer.append(rest)
    return longer


def clear_second(first, second, place):
    """Two rows that make just what these two make, the second of them with 0 at this place."""
    upper = first
    lower = second
    while lower[place] != 0:
        left = take_away(upper, upper[place] // lower[place], lower)
        upper = lower
        lower = left
    return [upper, lower]


def lessen_above(stairs):
    """Turn each row's first number that isn't 0 above 0, and lessen what stands above it."""
    done = []
    for row in reversed(stairs):
        done = [lessen(turn_above_zero(row), done)] + done
    return done


def turn_above_zero(row):
    """The row, or the row times -1, whichever leads with a number above 0."""
    if row[first_place(row)] < 0:
        return [-number for number in row]
    return row


def lessen(row, stairs):
    """Take multiples of a normal table's rows away, until from 0 to less than its first number stands above each."""
    rest = row
    for step in stairs:
        place = first_place(step)
        # Each further step has 0 where the earlier ones lead, so what was lessened stays so.
        rest = take_away(rest, rest[place] // step[place], step)
    return rest


def take_away(row, times, other):
    """The row less so many times the other."""
    return [number - times * taken for number, taken in zip(row, other)]


def divisors_of(rows):
    """The numbers above 0 whose first j have as their product the greatest common divisor of all j-minors."""
    # Neither making the rows normal nor turning the table over changes those greatest common divisors. By each round
    # the first number becomes a lesser divisor of itself, or stays and is alone in its row and column from then on;
    # and so the next ones, each in its turn: the rounds come to an end.
    rest = normal_of(rows)
    while not is_diagonal(rest):
        rest = normal_of(turn_over(rest))
    return divide_in_turn([row[place] for place, row in enumerate(rest)])


def is_diagonal(stairs):
    """Whether nothing but 0 stands right of the diagonal; in stairs, nothing else stands left of it anyway."""
    for place, row in enumerate(stairs):
        if any(row[place + 1:]):
            return False
    return True


def turn_over(rows):
    """The columns as rows."""
    return [column_at(rows, place) for place in range(len(rows[0]))]


def divide_in_turn(numbers):
    """Numbers of which each divides the next, as the divisors of a table with these numbers on its diagonal."""
    chain = []
    rest = numbers
    while len(rest) > 0:
        first = rest[0]
        multiples = []
        for number in rest[1:]:
            # On a diagonal, two numbers may be traded for their greatest common divisor and least common multiple.
            common = common_divisor(first, number)
            multiples.append(first // common * number)
            first = common
        chain.append(first)
        rest = multiples
    return chain


def common_divisor(one, other):
    """The greatest common divisor of two numbers above 0."""
    greater = one
    lesser = other
    while lesser != 0:
        left = greater % lesser
        greater = lesser
        lesser = left
    return greater

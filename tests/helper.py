"""What several tests need: a determinant by its definition, made-up numbers, and lists that refuse to be changed."""

LOWEST = -9223372036854775808
HIGHEST = 9223372036854775807


def determinant_by_first_row(n, table):
    """The determinant as the document's words define it: by the first row, over the columns that are left.

    The determinant of the lowest rows depends only on which columns are left, so each such choice is
    worked out once, from no row upwards; that is what makes n = 16 reachable.
    """
    known = {0: 1}
    for left in range(1, 1 << n):
        columns = [c for c in range(n) if left >> c & 1]
        first_row = n - len(columns)
        known[left] = sum(
            (-1) ** j * table[first_row * n + c] * known[left & ~(1 << c)]
            for j, c in enumerate(columns)
        )
    return known[(1 << n) - 1]


def made_up_numbers(seed, count, low, high):
    """Count numbers from low to high, the same ones for the same seed on every Python."""
    state = seed
    numbers = []
    for _ in range(count):
        state = (state * 6364136223846793005 + 1442695040888963407) % (1 << 128)
        numbers.append(low + (state >> 40) % (high - low + 1))
    return numbers


def diagonal(numbers):
    """A table with these numbers on its diagonal and 0 elsewhere."""
    n = len(numbers)
    return [numbers[i] if i == j else 0 for i in range(n) for j in range(n)]


def refuse(*args, **kwargs):
    raise AssertionError("what was handed in was changed")


class Untouchable(list):
    """A list that fails the test as soon as anything tries to change it, even for a while."""

    __setitem__ = __delitem__ = __iadd__ = __imul__ = refuse
    append = clear = extend = insert = pop = remove = reverse = sort = refuse

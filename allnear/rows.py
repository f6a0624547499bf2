"""Rows of integers: their determinant, and other rows with the same whole sums, the first one short."""

from allnear.checks import is_list, is_within
from allnear.errors import BadRows

MOST_ROWS = 6
# No number has more than 40 digits.
GREATEST = 10 ** 40 - 1


def determinant(rows):
    """The determinant of the rows."""
    need_rows(rows)
    return determinant_of(rows)


def reduced(rows):
    """Rows with the same whole sums, the first one as short as is told."""
    need_rows(rows)
    if determinant_of(rows) == 0:
        raise BadRows("hang")
    return shortened(rows)


def need_rows(rows):
    """Nothing, but these must be rows of as many integers as there are rows."""
    if not is_list(rows) or not 1 <= len(rows) <= MOST_ROWS:
        raise BadRows("rows")
    if not all([is_row(row, len(rows)) for row in rows]):
        raise BadRows("rows")


def is_row(value, size):
    """Whether it is a list of so many integers of 40 digits at most."""
    return is_list(value) and len(value) == size and all([is_within(one, -GREATEST, GREATEST) for one in value])


def determinant_of(rows):
    """The determinant, by the numbers of the first row."""
    if len(rows) == 1:
        return rows[0][0]
    parts = [number * determinant_of(without_place(rows[1:], at)) for at, number in enumerate(rows[0])]
    return sum(parts[::2]) - sum(parts[1::2])


def without_place(rows, at):
    """The rows without their numbers at this place."""
    return [[*row[:at], *row[at + 1:]] for row in rows]


def shortened(rows):
    """Rows of any integers with the same whole sums, the first one as short as is told; none may hang together.

    The steps are those of Lenstra, Lenstra and Lovasz, in whole numbers.
    """
    done, marks = [], []
    left = list(rows[::-1])
    while left:
        row, line = straightened(done, marks, left.pop())
        if is_first(marks, line):
            marks.pop()
            left.append(done.pop())
            left.append(row)
        else:
            done.append(tuple(row))
            marks.append(line)
    return tuple(done)


def marks_of(done, marks, row):
    """The marks of a row behind those that are done.

    The last mark is the product of the squares of what is left of all rows up to this one across the rows ahead.
    The one for each row ahead is how much of this row lies along it, times the last mark of that row.
    """
    line = []
    for at, other in enumerate([*done, row]):
        others = marks[at] if at < len(marks) else line
        mark = sum([one * two for one, two in zip(row, other)])
        before = 1
        for ahead in range(at):
            # All of these divisions leave no rest: each mark is a determinant of products of rows.
            mark = (marks[ahead][ahead] * mark - line[ahead] * others[ahead]) // before
            before = marks[ahead][ahead]
        line.append(mark)
    return line


def straightened(done, marks, row):
    """The row less whole times of those done, until half a time at most lies along each, and its marks."""
    line = marks_of(done, marks, row)
    for at in reversed(range(len(done))):
        whole = marks[at][at]
        times = (2 * line[at] + whole) // (2 * whole)
        row = [one - times * two for one, two in zip(row, done[at])]
        line = [*[one - times * two for one, two in zip(line, marks[at])], *line[at + 1:]]
    return row, line


def is_first(marks, line):
    """Whether the row of these marks has to change places with the last one that is done."""
    if not marks:
        return False
    last = len(marks) - 1
    before = marks[last - 1][last - 1] if last > 0 else 1
    # Both sides are the squares across the rows ahead of both, times one number.
    return 4 * (line[last + 1] * before + line[last] * line[last]) < 3 * marks[last][last] * marks[last][last]

"""Fractions as pairs, rows of them, and equations: exact, for values that have been checked."""

from math import gcd, lcm

NIL = (0, 1)
ONE = (1, 1)


def is_whole(value):
    """Whether a value, whatever it is, is a whole number."""
    return type(value) == int


def is_fraction(value):
    """Whether a value, whatever it is, is a fraction: a pair in lowest terms."""
    if type(value) != tuple or len(value) != 2:
        return False
    number, divisor = value
    if not is_whole(number) or not is_whole(divisor):
        return False
    return divisor > 0 and gcd(number, divisor) == 1


def is_row(value, many):
    """Whether a value, whatever it is, is a row of so many fractions."""
    if type(value) != tuple or len(value) != many:
        return False
    return all([is_fraction(number) for number in value])


def lowest(number, divisor):
    """The fraction number / divisor, the divisor being not 0."""
    common = gcd(number, divisor)
    if divisor < 0:
        common = -common
    return (number // common, divisor // common)


def plus(one, other):
    return lowest(one[0] * other[1] + other[0] * one[1], one[1] * other[1])


def times(one, other):
    return lowest(one[0] * other[0], one[1] * other[1])


def is_less(one, other):
    return one[0] * other[1] < other[0] * one[1]


def least(numbers):
    """The least of one fraction or more."""
    found = numbers[0]
    for number in numbers:
        if is_less(number, found):
            found = number
    return found


def total(row):
    found = NIL
    for number in row:
        found = plus(found, number)
    return found


def dot(row, column):
    """The sum of the numbers of one row, each times that of the other at its place."""
    return total([times(one, other) for one, other in zip(row, column)])


def table_times(table, row):
    """The row that has at each place the sum of products of that row of the table and the row."""
    return tuple([dot(line, row) for line in table])


def product_by(table, row, column):
    """The sum of the numbers of the row, each times that of the table times the column at its place."""
    return dot(row, table_times(table, column))


def only_solution(rows, sides):
    """The only row whose products with the rows, as many as its numbers, are the sides; None if not just one is."""
    table = [whole_line([*row, side]) for row, side in zip(rows, sides)]
    many = len(rows)
    before = 1
    for at in range(many):
        pivot = first_not_nil(table, at)
        if pivot is None:
            return None
        table[at], table[pivot] = table[pivot], table[at]
        table = cleared(table, at, before)
        before = table[at][at]
    return tuple([lowest(line[many], before) for line in table])


def whole_line(row):
    """The row times the least whole number above 0 that makes its numbers whole, as a list of these."""
    scale = 1
    for number in row:
        scale = lcm(scale, number[1])
    return [number[0] * (scale // number[1]) for number in row]


def first_not_nil(table, at):
    """The first line, from line `at` on, with a number other than 0 in column `at`; or None."""
    for k in range(at, len(table)):
        if table[k][at] != 0:
            return k
    return None


def cleared(table, at, before):
    """The table of whole numbers with 0 in column `at`, but for line `at`; `before` is the pivot ahead of this one."""
    head = table[at]
    lines = []
    for k, line in enumerate(table):
        if k == at:
            lines.append(line)
        else:
            # All numbers are determinants of parts of the first table (Bareiss), so the division leaves no rest.
            lines.append([(head[at] * low - line[at] * high) // before for low, high in zip(line, head)])
    return lines

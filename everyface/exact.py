"""Fractions as pairs, rows of them, lots, and equations: exact, for values that have been checked."""

from math import gcd, lcm

NIL = (0, 1)
ONE = (1, 1)
LESS = (-1, 1)


def is_whole(value):
    """Whether a value, whatever it is, is a whole number."""
    return type(value) == int


def is_fraction(value):
    """Whether a value, whatever it is, is a fraction: a pair in lowest terms."""
    if type(value) != tuple or len(value) != 2:
        return False
    number, divisor = value
    if not is_whole(number) or not is_whole(divisor):
        return False
    return divisor > 0 and gcd(number, divisor) == 1


def is_row(value, many):
    """Whether a value, whatever it is, is a row of so many fractions."""
    if type(value) != tuple or len(value) != many:
        return False
    return all([is_fraction(number) for number in value])


def lowest(number, divisor):
    """The fraction number / divisor, the divisor being not 0."""
    common = gcd(number, divisor)
    if divisor < 0:
        common = -common
    return (number // common, divisor // common)


def plus(one, other):
    return lowest(one[0] * other[1] + other[0] * one[1], one[1] * other[1])


def times(one, other):
    return lowest(one[0] * other[0], one[1] * other[1])


def is_less(one, other):
    return one[0] * other[1] < other[0] * one[1]


def least(numbers):
    """The least of one fraction or more."""
    found = numbers[0]
    for number in numbers:
        if is_less(number, found):
            found = number
    return found


def total(row):
    found = NIL
    for number in row:
        found = plus(found, number)
    return found


def dot(row, column):
    """The sum of the numbers of one row, each times that of the other at its place."""
    return total([times(one, other) for one, other in zip(row, column)])


def table_times(table, row):
    """The row that has at each place the sum of products of that row of the table and the row."""
    return tuple([dot(line, row) for line in table])


def product_by(table, row, column):
    """The sum of the numbers of the row, each times that of the table times the column at its place."""
    return dot(row, table_times(table, column))


def opposite(row):
    return tuple([times(LESS, number) for number in row])


def opposite_rows(table):
    return tuple([opposite(row) for row in table])


def sum_of_multiples(rows, multiples):
    """The sum of one row or more, each as often as the number at its place tells."""
    return tuple([dot(column, multiples) for column in zip(*rows)])


def is_from_nil(row):
    """Whether no number of the row is below 0."""
    return all([number[0] >= 0 for number in row])


def is_noughts(row):
    return all([number == NIL for number in row])


def unit(at, many):
    """The row of so many fractions that is 1 at a place and 0 elsewhere."""
    return spread((ONE,), (at,), many)


def turned(table):
    """The table with the columns as rows."""
    return tuple([tuple(column) for column in zip(*table)])


def both_ways(table):
    """The table plus the table turned over: alike when it is turned over itself."""
    return tuple([
        tuple([plus(one, other) for one, other in zip(row, column)]) for row, column in zip(table, turned(table))
    ])


def lot_of(row):
    """The places at which a row is not 0."""
    return tuple([at for at, number in enumerate(row) if number != NIL])


def all_lots(many):
    """All lots of so many places, other than (), in the order of tuples."""
    lots = []
    for place in reversed(range(many)):
        lots = [(place,)] + [(place, *lot) for lot in lots] + lots
    return lots


def lots_of_size(many, size):
    """The lots of so many places that have this size, () among them, in the order of tuples."""
    return [lot for lot in [()] + all_lots(many) if len(lot) == size]


def spread(numbers, lot, many):
    """The row of so many fractions with these numbers on the lot and 0 elsewhere."""
    row = [NIL] * many
    for place, number in zip(lot, numbers):
        row[place] = number
    return tuple(row)


def only_solution(rows, sides):
    """The only row whose products with the rows, one or more, are the sides; None if not just one is."""
    solution, left = solved(rows, sides)
    if left > 0:
        return None
    return solution


def any_solution(rows, sides):
    """Any row whose products with the rows, one or more, are the sides; None if there is none."""
    return solved(rows, sides)[0]


def solved(rows, sides):
    """The pair of a solution, None if there is none, and of the number of unknowns that the rows leave free."""
    many = len(rows[0])
    table, heads = reduced([whole_line([*row, side]) for row, side in zip(rows, sides)], many)
    left = many - len(heads)
    if any([line[many] != 0 for line in table[len(heads):]]):
        return (None, left)
    numbers = [lowest(line[many], line[head]) for line, head in zip(table, heads)]
    return (spread(numbers, heads, many), left)


def free_solutions(rows, many):
    """Free rows of so many numbers: the sums of multiples of them are just what has the product 0 with each row.

    They depend on these sums alone: other rows with the same ones give the same rows here.
    """
    table, heads = reduced([whole_line(row) for row in rows], many)
    others = [at for at in range(many) if at not in heads]
    return tuple([solution_along(table, heads, at, many) for at in others])


def solution_along(table, heads, at, many):
    """The row with the products 0 that has 1 at a place that is no head, and 0 at all others that are none."""
    row = [NIL] * many
    row[at] = ONE
    for line, head in zip(table, heads):
        row[head] = lowest(-line[at], line[head])
    return tuple(row)


def reduced(table, many):
    """A table of whole numbers with the same solutions, and the heads of its first lines, one each.

    A head is the only column, of the first so many, in which its line has a number other than 0 and no other line has;
    lines without a head have 0 in each of these columns.
    """
    lines = list(table)
    heads = []
    before = 1
    for column in range(many):
        top = len(heads)
        pivot = first_not_nil(lines, top, column)
        if pivot is not None:
            lines[top], lines[pivot] = lines[pivot], lines[top]
            lines = cleared(lines, top, column, before)
            before = lines[top][column]
            heads.append(column)
    return (lines, heads)


def whole_line(row):
    """The row times the least whole number above 0 that makes its numbers whole, as a list of these."""
    scale = 1
    for number in row:
        scale = lcm(scale, number[1])
    return [number[0] * (scale // number[1]) for number in row]


def first_not_nil(table, top, column):
    """The first line, from line `top` on, with a number other than 0 in the column; or None."""
    for k in range(top, len(table)):
        if table[k][column] != 0:
            return k
    return None


def cleared(table, top, column, before):
    """The table of whole numbers with 0 in the column, but for line `top`; `before` is the pivot ahead of this one."""
    head = table[top]
    lines = []
    for k, line in enumerate(table):
        if k == top:
            lines.append(line)
        else:
            # All numbers are determinants of parts of the first table (Bareiss), so the division leaves no rest.
            lines.append([(head[column] * low - line[column] * high) // before for low, high in zip(line, head)])
    return lines

"""Forms, wrong values and a second way to work things out, for the tests."""

from fractions import Fraction
from itertools import combinations
from random import Random
from unittest import TestCase

from everyface.errors import FaceError

NIL, HALF, ONE, TWO, LESS = (0, 1), (1, 2), (1, 1), (2, 1), (-1, 1)
HUMP = ((ONE, LESS), (LESS, ONE))
CROSS = ((NIL, ONE), (ONE, NIL))
FIRM = ((TWO, ONE), (ONE, TWO))
DIP = ((ONE, (-2, 1)), ((-2, 1), ONE))
FLAT = ((NIL, NIL), (NIL, NIL))
SINGLE = (((5, 3),),)
# Of Horn: "from", with many zeros, though it is neither a sum of squares nor without numbers below 0.
HORN = tuple([tuple([LESS if (i - j) % 5 in (1, 4) else ONE for j in range(5)]) for i in range(5)])


class Plain:
    """An object of a class that nobody has heard of."""


def nested(deep):
    """A tuple in a tuple and so on, so deep."""
    value = ()
    for _ in range(deep):
        value = (value,)
    return value


# Of each sort some that are neither a form, a row, a lot, a fraction nor a whole number.
OTHER_SORTS = [
    None, True, False, "", "a", "ab", "(1, 1)", b"", b"ab", [], [1, 1], {}, {0: 1, 1: 1}, set(), {1, 2}, frozenset(),
    range(2), int, len, Plain(), Plain, Ellipsis, nested(3), nested(8), ([],), ({},),
]

NO_FRACTIONS = OTHER_SORTS + [
    0, 1, -7, 10 ** 300, (), (1,), (1, 1, 1), (2, 2), (2, 4), (-2, 4), (0, 2), (0, 0), (1, 0), (-1, 0), (1, -1),
    (0, -1),
    (-3, -2), (6, -3), (True, 1), (1, True), (False, 1), (True, True), (0, True), (None, 1), (1, None), ("1", "1"),
    ((1, 1), (1, 1)), ((1,), 1), (1, (1,)), ([1], 1), [0, 1], [1, 2], ((1, 1),),
]

NO_FORMS = OTHER_SORTS + [
    0, 1, -2, (), ((),), ((), ()), (1,), (1, 2), ONE, (ONE,), (ONE, ONE), ((ONE, ONE),), ((ONE,), (ONE,)),
    ((ONE, ONE), (ONE,)), ((ONE,), (ONE, ONE)), ((ONE, ONE), (ONE, ONE), (ONE, ONE)),
    ((ONE, ONE, ONE), (ONE, ONE, ONE)),
    ((ONE, TWO), (ONE, ONE)), ((ONE, ONE), ((-1, 1), ONE)), ((ONE, (1, 2)), ((1, 3), ONE)),
    [[ONE, ONE], [ONE, ONE]], [(ONE, ONE), (ONE, ONE)], ([ONE, ONE], [ONE, ONE]), ((ONE, ONE), [ONE, ONE]),
    {0: (ONE, ONE), 1: (ONE, ONE)}, (HUMP, HUMP), (HUMP,), (((ONE,),),), (None,), ((None,),), (("ab",),), ("a",),
    (HUMP, (NIL, NIL)), ((1, 1), (1, 1)), ((1,),), tuple([(NIL,) * 7] * 7), tuple([(NIL,) * 6] * 7),
    tuple([(NIL,) * 7] * 6),
]

# What is no lot as a whole, whatever its elements are.
NO_LOTS = [value for value in OTHER_SORTS if type(value) is not tuple]
NO_LOTS += [(), 0, 1, -1, [0], [0, 1], {0: 0}, {0}, "0", range(1)]

# What is no whole number, or one out of all bounds that are asked for.
NO_NUMBERS = OTHER_SORTS + [
    0, -1, -10 ** 300, 10 ** 6 + 1, 10 ** 400, (), (1,), (2, 1), ONE, "1", "2", b"2", [2], {2: 2},
]

NO_PLACES = OTHER_SORTS + [-1, -2, -10 ** 30, 10 ** 30, (0,), (1,), (), ONE, "0", [0]]


def form_with(at, value, base=HUMP):
    """The table of a form with another value in a row and column."""
    rows = [list(row) for row in base]
    rows[at[0]][at[1]] = value
    return tuple([tuple(row) for row in rows])


def lots_of(many):
    """All lots of so many places other than (), in the order of tuples."""
    return sorted([lot for size in range(1, many + 1) for lot in combinations(range(many), size)])


def number(pair):
    return Fraction(pair[0], pair[1])


def numbers(row):
    return [number(pair) for pair in row]


def table(form):
    return [numbers(row) for row in form]


def pair(value):
    return (Fraction(value).numerator, Fraction(value).denominator)


def pairs(row):
    return tuple([pair(value) for value in row])


def form_of(rows):
    """The form with these numbers, in rows."""
    return tuple([pairs(row) for row in rows])


def led_to(rows, row):
    return [sum([a * x for a, x in zip(line, row)]) for line in rows]


def product_of(rows, row, column):
    return sum([x * y for x, y in zip(row, led_to(rows, column))])


def solutions(rows, sides):
    """A solution and the number of dimensions of all of them; None if there is none. By plain steps of Gauss."""
    lines = [list(map(Fraction, row)) + [Fraction(side)] for row, side in zip(rows, sides)]
    width = len(rows[0])
    heads = []
    for column in range(width):
        top = len(heads)
        found = [k for k in range(top, len(lines)) if lines[k][column] != 0]
        if not found:
            continue
        lines[top], lines[found[0]] = lines[found[0]], lines[top]
        lines[top] = [value / lines[top][column] for value in lines[top]]
        for k in range(len(lines)):
            if k != top:
                lines[k] = [a - lines[k][column] * b for a, b in zip(lines[k], lines[top])]
        heads.append(column)
    if any([line[width] != 0 for line in lines[len(heads):]]):
        return None
    solved = [Fraction(0)] * width
    for k, column in enumerate(heads):
        solved[column] = lines[k][width]
    return solved, width - len(heads)


def told_stand(form, lot):
    """The stand of a lot and its worth, straight from the words of the document; None."""
    rows = table(form)
    bordered = [[rows[i][j] for j in lot] + [-1] for i in lot] + [[1] * len(lot) + [0]]
    found = solutions(bordered, [0] * len(lot) + [1])
    if found is None or found[1] > 0 or min(found[0][:-1]) <= 0:
        return None
    whole = [Fraction(0)] * len(form)
    for place, value in zip(lot, found[0]):
        whole[place] = value
    return pairs(whole), pair(found[0][-1])


def is_mix_of(row, corners):
    """Whether a row is a mix of rows: then it is one of some of them that are all needed in just one way."""
    for lot in lots_of(len(corners)):
        chosen = [numbers(corners[k]) for k in lot]
        sides = numbers(row) + [Fraction(1)]
        found = solutions([list(line) for line in zip(*chosen)] + [[1] * len(lot)], sides)
        if found is not None and found[1] == 0 and min(found[0]) >= 0:
            return True
    return False


def shares_by(many, parts):
    """All shares of so many places that are so many parts of 1 each."""
    found = []
    for cuts in combinations(range(parts + many - 1), many - 1):
        ends = [-1, *cuts, parts + many - 1]
        found.append(pairs([Fraction(ends[k + 1] - ends[k] - 1, parts) for k in range(many)]))
    return found


def any_form(chance, many, values):
    """A form with numbers that are taken out of some values."""
    rows = [[None] * many for _ in range(many)]
    for i in range(many):
        for j in range(i + 1):
            rows[i][j] = rows[j][i] = chance.choice(values)
    return form_of(rows)


SMALL = [Fraction(n, m) for n in range(-4, 5) for m in (1, 2, 3)]
ALIKE = [0, 0, 0, 1, 1, -1]
FLOOR = [0, 0, 0, 1, 2]


def many_forms(seed, rounds):
    """Forms of one to six rows: of mixed numbers, of numbers that are often alike, and with many corners."""
    chance = Random(seed)
    found = []
    for _ in range(rounds):
        for many in range(1, 7):
            found.append(any_form(chance, many, SMALL))
            found.append(any_form(chance, many, ALIKE))
            found.append(raised(any_form(chance, many, FLOOR), chance.choice(SMALL)))
            found.append(squares(chance, many))
    return found


def raised(form, by):
    """The form with a number added to each of its numbers."""
    return form_of([[value + by for value in row] for row in table(form)])


def squares(chance, many):
    """The form of all products of some rows: nowhere below 0, and often with wide faces."""
    lines = [[chance.choice([-1, 0, 1]) for _ in range(2)] for _ in range(many)]
    return form_of([[sum([a * b for a, b in zip(one, other)]) for other in lines] for one in lines])


def with_zero(chance, zero):
    """A form that is nowhere below 0, on no row at all, and 0 just at the multiples of a row from 0 on."""
    many = len(zero)
    head = [at for at in range(many) if zero[at] != 0][0]
    lines = [[zero[head] if k == i else -zero[i] if k == head else 0 for k in range(many)] for i in range(many)]
    weights = [Fraction(chance.randrange(1, 9), chance.randrange(1, 9)) for _ in range(many)]
    return [[sum([w * line[i] * line[j] for k, (w, line) in enumerate(zip(weights, lines)) if k != head])
             for j in range(many)] for i in range(many)]


def more_at(rows, i, j, by):
    """The form of the rows with a little more (or less) at one place, and at the place that is alike."""
    changed = [list(row) for row in rows]
    changed[i][j] += by
    changed[j][i] = changed[i][j]
    return form_of(changed)


def told_word(form):
    """The word of a form by the stands of all lots, as these are worked out here."""
    stands = [told_stand(form, lot) for lot in lots_of(len(form))]
    low = min([number(found[1]) for found in stands if found is not None])
    return "above" if low > 0 else "from" if low == 0 else "below"


def in_cone(row, edges):
    """Whether numbers are a sum of multiples from 0 on of edges: then they are one of some free ones of them."""
    if not any(row):
        return True
    for size in range(1, min(len(row), len(edges)) + 1):
        for some in combinations(edges, size):
            found = solutions([list(line) for line in zip(*some)], row)
            if found is not None and found[1] == 0 and min(found[0]) >= 0:
                return True
    return False


def times_row(row, other):
    return sum([a * b for a, b in zip(row, other)])


def across(one, other):
    """The row of three numbers at right angles to two."""
    return [one[1] * other[2] - one[2] * other[1], one[2] * other[0] - one[0] * other[2],
            one[0] * other[1] - one[1] * other[0]]


def units(many):
    return [[int(i == j) for j in range(many)] for i in range(many)]


def ways_of(many, rows):
    """Ways of which all ways of the rows are sums: within each corner of signs the cone of ways has no lines."""
    sides = rows + units(many)
    if many == 1:
        found = [[1]]
    elif many == 2:
        found = [[-side[1], side[0]] for side in sides]
    else:
        found = [across(one, other) for one, other in combinations(sides, 2)]
    found = found + [[-value for value in way] for way in found]
    return [way for way in found if any(way) and all([times_row(row, way) <= 0 for row in rows])]


def places_in(many, rows, limits):
    """Places of which, with ways, all places of a room are mixes: the corners of it within each corner of signs."""
    sides = list(zip(rows, limits)) + [(unit, 0) for unit in units(many)]
    places = []
    for some in combinations(sides, many):
        found = solutions([row for row, _ in some], [limit for _, limit in some])
        if found is not None and found[1] == 0 and found[0] not in places:
            if all([times_row(row, found[0]) <= limit for row, limit in zip(rows, limits)]):
                places.append(found[0])
    return places


def some_rows(chance, many, size, values):
    """Rows of many numbers, so many, among which are often noughts, the same ones, and opposites."""
    rows = []
    for _ in range(size):
        kind = chance.randrange(8)
        if rows and kind == 0:
            rows.append([-value for value in chance.choice(rows)])
        elif rows and kind == 1:
            rows.append([value * 2 for value in chance.choice(rows)])
        elif kind == 2:
            rows.append([Fraction(0)] * many)
        else:
            rows.append([Fraction(chance.choice(values)) for _ in range(many)])
    return rows


def great_number(chance):
    return Fraction(chance.randrange(-10 ** 399, 10 ** 399), chance.randrange(1, 10 ** 399))


class FaceCase(TestCase):
    """A case that looks at errors as the document tells them: class, base and attribute."""

    def told(self, error, attribute, value, function, *given, **named):
        with self.assertRaises(FaceError) as caught:
            function(*given, **named)
        self.assertIs(type(caught.exception), error)
        self.assertEqual(error.__bases__, (FaceError,))
        self.assertIs(getattr(caught.exception, attribute), value)
        self.assertEqual(vars(caught.exception), {attribute: value})

    def told_bare(self, error, function, *given, **named):
        with self.assertRaises(FaceError) as caught:
            function(*given, **named)
        self.assertIs(type(caught.exception), error)
        self.assertEqual(error.__bases__, (FaceError,))
        self.assertEqual(vars(caught.exception), {})

    def is_row(self, row, many):
        """Looks whether a row is a tuple of so many fractions in lowest terms."""
        self.assertIs(type(row), tuple)
        self.assertEqual(len(row), many)
        for value in row:
            self.assertIs(type(value), tuple)
            self.assertEqual([type(part) for part in value], [int, int])
            self.assertEqual(pair(number(value)), value)

    def are_shares(self, row, many):
        self.is_row(row, many)
        self.assertGreaterEqual(min(numbers(row)), 0)
        self.assertEqual(sum(numbers(row)), 1)

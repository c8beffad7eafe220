"""Games, mixes, values that are none, and a second way to look at them, for the tests."""

from fractions import Fraction

from tests.samples import (
    HALF, LESS, NIL, NO_FRACTIONS, ONE, OTHER_SORTS, TWO, form_of, led_to, lots_of, number, numbers, pairs, product_of,
    solutions, table, times_row, told_stand,
)

THIRD = (1, 3)
DOVE, MEET = ((LESS, TWO), (NIL, ONE)), ((TWO, NIL), (NIL, ONE))
ROCK = ((NIL, LESS, ONE), (ONE, NIL, LESS), (LESS, ONE, NIL))
SOLE = (((-7, 2),),)
ALL_SAME = ((ONE, ONE, ONE),) * 3
EVEN = (HALF, HALF)
THIRDS = (THIRD, THIRD, THIRD)

NO_GAMES = OTHER_SORTS + [
    0, 1, (), ((),), ((), ()), (1,), (1, 2), ONE, (ONE,), (ONE, ONE), ((ONE, ONE),), ((ONE,), (ONE,)),
    ((ONE, ONE), (ONE,)), ((ONE,), (ONE, ONE)), ((ONE,) * 3,) * 2, ((ONE,) * 2,) * 3, ((NIL,) * 6,) * 6,
    ((NIL,) * 7,) * 7,
    ((NIL,) * 5,) * 6, ((NIL,) * 6,) * 5, [[ONE, ONE], [ONE, ONE]], [(ONE, ONE), (ONE, ONE)], ([ONE, ONE], [ONE, ONE]),
    ((ONE, ONE), [ONE, ONE]), {0: (ONE, ONE), 1: (ONE, ONE)}, (DOVE, DOVE), (DOVE,), (None,), ((None,),), ("a",),
    (("ab",),),
    ((ONE, (2, 2)), (ONE, ONE)), ((ONE, ONE), (ONE, (1, 0))), ((ONE, (True, 1)), (ONE, ONE)), (((1, -1),),), ((1,),),
    ((ONE, None), (ONE, ONE)), ((ONE, [1, 1]), (ONE, ONE)), (DOVE, EVEN), ((ONE, ONE), None),
]

NO_TUPLES = [value for value in OTHER_SORTS if type(value) is not tuple] + [
    0, (), (ONE,), (ONE, NIL, NIL), [HALF, HALF], {0: HALF, 1: HALF}, "ab", b"ab", (NIL,) * 7, 1,
]

NO_SHARES = NO_FRACTIONS + [LESS, (-1, 2), (-1, 10 ** 399)]

OTHER_SUMS = [(NIL, NIL), (ONE, ONE), (HALF, NIL), (HALF, THIRD), (TWO, NIL), (HALF, (10 ** 60, 2 * 10 ** 60 + 1))]


def some_game(chance, many, kind):
    """A game of any numbers, of few ones, alike turned over, with two places alike, or in which all get the same."""
    if kind == 0:
        values = [Fraction(n, m) for n in range(-5, 6) for m in (1, 2, 3)]
    else:
        values = [-1, 0, 0, 1, 1, 2]
    rows = [[Fraction(chance.choice(values)) for _ in range(many)] for _ in range(many)]
    if kind == 2:
        rows = [[rows[min(i, j)][max(i, j)] for j in range(many)] for i in range(many)]
    if kind == 3 and many > 1:
        rows[1] = list(rows[0])
        for row in rows:
            row[1] = row[0]
    if kind == 4:
        rows = [[rows[0][j]] * many for j in range(many)]
        rows = [list(column) for column in zip(*rows)]
    if kind == 5:
        # What each place gets beside all places together is the same: the mix of all is even.
        rows = [[value - Fraction(sum(row), many) for value in row] for row in rows]
    return form_of(rows)


def some_games(chance, rounds):
    return [some_game(chance, many, kind) for _ in range(rounds) for many in range(1, 6) for kind in range(6)]


def some_mix(chance, many):
    parts = [chance.choice([0, 0, 1, 1, 2, 5]) for _ in range(many)]
    parts[chance.randrange(many)] += 1
    return pairs([Fraction(part, sum(parts)) for part in parts])


def lot_by_hand(row):
    return [k for k, value in enumerate(numbers(row)) if value != 0]


def gets(game, one, other):
    """What one mix gets beside another one."""
    return product_of(table(game), numbers(one), numbers(other))


def best_by_hand(game, mix):
    gained = led_to(table(game), numbers(mix))
    return [k for k, value in enumerate(gained) if value == max(gained)]


def even_by_hand(game, mix):
    return set(lot_by_hand(mix)) <= set(best_by_hand(game, mix))


def enters_by_hand(game, mix, other):
    """Whether another mix enters a mix, by the words of the document."""
    here, there = gets(game, mix, mix), gets(game, other, mix)
    if there != here:
        return there > here
    return other != mix and gets(game, other, other) >= gets(game, mix, other)


def hurts_by_hand(game, mix, other):
    here, there = gets(game, mix, mix), gets(game, other, mix)
    if there != here:
        return there > here
    return gets(game, other, other) > gets(game, mix, other)


def told_changes(game, mix):
    """The word of the opposite game on all changes that are let at an even mix: with an opposite for each line."""
    lot, best = lot_by_hand(mix), best_by_hand(game, mix)
    many = len(mix)
    edges = []
    for place in best:
        if place != lot[0]:
            step = [int(k == place) - int(k == lot[0]) for k in range(many)]
            edges += [step, [-value for value in step]] if place in lot else [step]
    if not edges:
        return "above"
    rows = [[-value for value in row] for row in table(game)]
    both = [[rows[i][j] + rows[j][i] for j in range(many)] for i in range(many)]
    form = form_of([[product_of(both, one, other) for other in edges] for one in edges])
    stands = [told_stand(form, lot) for lot in lots_of(len(edges))]
    low = min([number(found[1]) for found in stands if found is not None])
    if low != 0:
        return "above" if low > 0 else "below"
    zeros = [numbers(found[0]) for found in stands if found is not None and found[1] == NIL]
    made = [[times_row(zero, column) for column in zip(*edges)] for zero in zeros]
    return "from" if any([any(way) for way in made]) else "above"


def corners_by_hand(game):
    """The corners of the even mixes: for each lot and each lot of best answers the only mix with them, if just one."""
    rows = table(game)
    many = len(rows)
    found = set()
    for lot in lots_of(many):
        for best in lots_of(many):
            if set(lot) <= set(best):
                lines = [[rows[i][j] - rows[best[0]][j] for j in lot] for i in best[1:]] + [[1] * len(lot)]
                told = solutions(lines, [0] * (len(best) - 1) + [1])
                if told is not None and told[1] == 0 and min(told[0]) > 0:
                    row = [told[0][lot.index(k)] if k in lot else 0 for k in range(many)]
                    if best_by_hand(game, pairs(row)) == list(best):
                        found.add(pairs(row))
    return tuple(sorted(found))

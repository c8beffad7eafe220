"""Webs, values that are none, and a second way to look at them, for the tests."""

from fractions import Fraction
from itertools import combinations

from tests.samples import HALF, LESS, NIL, NO_FRACTIONS, ONE, OTHER_SORTS, lots_of, numbers, pairs

PATH = (3, ((0, 1), (1, 2)), (ONE, ONE, ONE))
HEAVY = (3, ((0, 1), (1, 2)), (ONE, ONE, (3, 1)))
ALONE = (1, (), (HALF,))
# Five places in a ring, and a sixth one that is tied to none.
RING = (6, ((0, 1), (0, 4), (1, 2), (2, 3), (3, 4)), (ONE,) * 6)

NO_TIES = [value for value in OTHER_SORTS if value != ()] + [
    0, 1, (0, 1), ((0, 1, 2),), ((0,),), ((1, 0),), ((0, 0),), ((1, 1),), ((0, 3),), ((-1, 0),), ((-3, 1),), ((2, 3),),
    ((0, 1), (0, 1)), ((1, 2), (0, 1)), ((0, 2), (0, 1)), ((0, 1), (1, 0)), ([0, 1],), [(0, 1)], ((0, True),),
    ((False, 1),), ((True, 2),), ((0, 1), None), ((0, "1"),), (("0", "1"),), ("01",), ((0, (1, 1)),), ((0, 1), ()),
    ((0, None),), ({0: 0, 1: 1},), {(0, 1): True}, ((0, 1), [0, 2]), ((0, 10 ** 30),), (((0, 1),),), (b"ab",),
]

NO_WEIGHTS = [(value, ONE, ONE) for value in NO_FRACTIONS + [NIL, LESS, (-1, 10 ** 399)]] + [
    (ONE, ONE), (ONE,) * 4, (), None, [ONE, ONE, ONE], {0: ONE, 1: ONE, 2: ONE}, ONE, (1, 1, 1), "111", (ONE, ONE, NIL),
    (ONE, LESS, ONE), ((ONE, ONE, ONE),), 3, True, (ONE, ONE, (0, 2)), (ONE, ONE, [1, 1]),
]

NO_COUNTS = OTHER_SORTS + [0, -1, 7, 10 ** 30, (3, 1), "3", [3], (1,), 2, 4]

NO_WEBS = OTHER_SORTS + [
    0, 3, (), (3,), (3, ()), PATH + ((),), list(PATH), (PATH,), {0: 3, 1: (), 2: ()}, ONE, (ONE, ONE, ONE),
    ((), (), ()),
    (2, ((1, 0),), (ONE, ONE)), (0, (), ()), (7, (), (ONE,) * 7), (1, ((0, 0),), (ONE,)), (1, ((0, 1),), (ONE,)),
    (PATH[2], PATH[1], 3), (6, ((0, 6),), (ONE,) * 6),
] + [(3, ties, PATH[2]) for ties in NO_TIES] + [(3, PATH[1], weights) for weights in NO_WEIGHTS] + [
    (count, PATH[1], PATH[2]) for count in NO_COUNTS]


def some_web(chance, many, kind):
    """A web with any ties, none or all, and weights that are alike, often alike or any."""
    all_ties = list(combinations(range(many), 2))
    ties = {0: [], 1: all_ties}.get(kind, [tie for tie in all_ties if chance.randrange(3)])
    if chance.randrange(2):
        weights = [1] * many
    else:
        weights = [Fraction(chance.randrange(1, 4), chance.choice([1, 1, 2, 3])) for _ in range(many)]
    return (many, tuple(ties), pairs(weights))


def some_webs(chance, rounds):
    return [some_web(chance, many, kind) for _ in range(rounds) for many in range(1, 7) for kind in range(5)]


def tied_by_hand(web, lot):
    return all([pair in web[1] for pair in combinations(lot, 2)])


def untied_by_hand(web, lot):
    return not any([pair in web[1] for pair in combinations(lot, 2)])


def tied_lots_of(web):
    return [lot for lot in lots_of(web[0]) if tied_by_hand(web, lot)]


def weight_by_hand(web, lot):
    return sum([numbers(web[2])[k] for k in lot])

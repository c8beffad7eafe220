"""Rooms and quadratics, values that are none, and a second way to look at them, for the tests."""

from fractions import Fraction
from random import Random

from everyface.rooms import is_in, room_edges, told_places
from everyface.words import word_and_corners
from tests.samples import (
    ALIKE, CROSS, HUMP, LESS, NIL, NO_FORMS, ONE, OTHER_SORTS, SMALL, any_form, form_of, number, numbers, pair, pairs,
    product_of, some_rows, squares, table, times_row, told_word,
)

RIGHT = ((LESS, NIL), (NIL, LESS))
SQUARE = (2, ((ONE, NIL), (NIL, ONE), (LESS, NIL), (NIL, LESS)), (ONE, ONE, NIL, NIL))
QUARTER = (2, RIGHT, (NIL, NIL))
STRIP = (2, ((NIL, ONE), (NIL, LESS)), (ONE, NIL))
GAP = (1, ((ONE,), (LESS,)), (NIL, LESS))
ALL = {many: (many, (), ()) for many in (1, 2, 3)}
FEW = [-2, -1, -1, 0, 0, 1, 1, 2, Fraction(1, 2), Fraction(-1, 3)]
TINY = Fraction(1, 10 ** 300)

NO_ROOMS = OTHER_SORTS + [
    0, 1, (), (1,), (2, ()), (2, (), (), ()), [2, (), ()], ((), (), ()), (2, [], ()), (2, (), []), (2, None, None),
    (0, (), ()), (4, (), ()), (-1, (), ()), (True, (), ()), (False, (), ()), ("1", (), ()), ((1, 1), (), ()),
    (None, (), ()), (1, ((ONE,),), ()), (1, (), (ONE,)), (1, ((ONE,),), (ONE, ONE)), (1, ((ONE,), (ONE,)), (ONE,)),
    (1, ((ONE, ONE),), (ONE,)),
    (2, ((ONE,),), (ONE,)), (2, ((ONE, ONE, ONE),), (ONE,)), (2, (ONE, ONE), (ONE, ONE)), (1, (ONE,), (ONE,)),
    (2, ([ONE, ONE],), (ONE,)), (2, ((ONE, ONE),), [ONE]), (2, [(ONE, ONE)], (ONE,)), (2, ((ONE, [1, 1]),), (ONE,)),
    (1, ((ONE,),), ((2, 2),)), (1, (((2, 2),),), (ONE,)), (1, ((ONE,),), (1,)), (1, ((1,),), (ONE,)),
    (1, ((),), (ONE,)),
    (1, (((1, 0),),), (ONE,)), (1, ((ONE,),), ((1, -1),)), (1, ((ONE,),), ((True, 1),)), (1, ((ONE,),), (None,)),
    (1, ((ONE,),) * 7, (ONE,) * 7), (2, ((NIL, NIL),) * 7, (NIL,) * 7), {0: 2, 1: (), 2: ()}, "2()", b"200", HUMP,
    (((ONE,), (ONE,)), 1), (1, {}, ()), (1, (), {}), (1, (), set()), (1, "", ""), (3, (None,), (ONE,)),
    (2, ("ab",), (ONE,)),
]


def some_room(chance, many, size, low):
    """A room with rows that are often alike, opposite or noughts, and limits from a number on."""
    rows = some_rows(chance, many, size, FEW)
    limits = [chance.choice([value for value in FEW if value >= low]) for _ in rows]
    return (many, form_of(rows), pairs(limits))


def some_rooms(seed, rounds):
    chance = Random(seed)
    return [some_room(chance, many, size, low)
            for _ in range(rounds) for many in (1, 2, 3) for size in range(7) for low in (-2, 0)]


def plain(room):
    return room[0], [numbers(row) for row in room[1]], numbers(room[2])


NO_QUADRATICS = [value for value in NO_FORMS if value != (HUMP, (NIL, NIL))] + [
    CROSS, (CROSS,), (CROSS, (ONE, ONE), ()), ((ONE, ONE), CROSS), [CROSS, (ONE, ONE)], (CROSS, [ONE, ONE]),
    (list(CROSS), (ONE, ONE)), (CROSS, (ONE,)), (CROSS, (ONE, ONE, ONE)), (CROSS, ()), (CROSS, None), (CROSS, CROSS),
    (CROSS, (ONE, (2, 2))), (CROSS, ((1, 0), ONE)), (CROSS, (ONE, (True, 1))), (CROSS, (1, 1)), (CROSS, ONE),
    (CROSS, (ONE, None)), (((ONE, ONE), (LESS, ONE)), (ONE, ONE)), (((ONE,),), ()), ((), ()), (((ONE,),), ONE),
    (((NIL,) * 4,) * 4, (NIL,) * 4), (((NIL,) * 6,) * 6, (NIL,) * 6), {0: CROSS, 1: (ONE, ONE)},
    (CROSS, {0: ONE, 1: ONE}),
    ((CROSS, (ONE, ONE)),), (CROSS, ((1, -1), ONE)), (((ONE,),), ([1, 1],)), (None, (ONE,)), (((ONE,),), True),
]


def some_quadratic(chance, many):
    """A quadratic whose form bends in any way, is flat or nowhere below 0, with slopes that are often noughts."""
    kind = chance.randrange(5)
    if kind == 0:
        form = any_form(chance, many, SMALL)
    elif kind == 1:
        form = any_form(chance, many, ALIKE)
    elif kind == 2:
        form = form_of([[0] * many] * many)
    else:
        form = squares(chance, many)
    slopes = [chance.choice(FEW) for _ in range(many)] if chance.randrange(3) else [0] * many
    return (form, pairs(slopes))


def some_held_rooms(seed, rounds):
    """Rooms that are not empty, each with a quadratic."""
    chance = Random(seed + 1)
    rooms = [room for room in some_rooms(seed, rounds) if told_places(room)]
    return [(some_quadratic(chance, room[0]), room) for room in rooms]


def bend(quadratic, way):
    return product_of(table(quadratic[0]), way, way)


def worth_by_hand(quadratic, place):
    """The worth at a row of numbers."""
    return bend(quadratic, place) + times_row(numbers(quadratic[1]), place)


def slope_by_hand(quadratic, place):
    return [2 * sum([a * x for a, x in zip(line, place)]) + c
            for line, c in zip(table(quadratic[0]), numbers(quadratic[1]))]


def is_way_of(rows, way):
    return all([times_row(row, way) <= 0 for row in rows])


def falls_for_ever(quadratic, room, place, way):
    """Whether a place and a way show, by the words of the document, that a quadratic is not bounded below."""
    there = times_row(slope_by_hand(quadratic, numbers(place)), numbers(way))
    bent = bend(quadratic, numbers(way))
    held = is_in(room, place) and is_way_of(plain(room)[1], numbers(way))
    return held and (bent < 0 or (bent == 0 and there < 0))


def word_over(quadratic, room, low):
    """The word of the worths less a number over a room, each times a number above 0: as a form of places and ways.

    With x a sum of s_i times place i and of ways, s the sum of all s_i, the form is s s (worth at x / s) - low s s.
    """
    half = [value / 2 for value in numbers(quadratic[1])]
    lifted = [row + [value] for row, value in zip(table(quadratic[0]), half)] + [half + [-low]]
    rows = [numbers(place) + [1] for place in told_places(room)] + [numbers(way) + [0] for way in room_edges(room)]
    form = form_of([[product_of(lifted, one, other) for other in rows] for one in rows])
    return told_word(form) if len(form) < 5 else word_and_corners(form)[0]


def grid_places(room, chance, rounds):
    """Some places of a room: mixes of those that are told, plus ways, with numbers by chance."""
    places, ways = [numbers(place) for place in told_places(room)], [numbers(way) for way in room_edges(room)]
    found = []
    for _ in range(rounds):
        parts = [chance.randrange(4) for _ in places]
        parts[chance.randrange(len(parts))] += 1
        place = [sum([part * at for part, at in zip(parts, column)]) / Fraction(sum(parts)) for column in zip(*places)]
        for way in ways:
            by = chance.choice([0, 0, 1, 5, Fraction(1, 3)])
            place = [at + by * step for at, step in zip(place, way)]
        found.append(place)
    return found


def shares_room(many):
    """The room of all shares of up to three places."""
    sides = [[1] * many, [-1] * many] + [[-int(i == j) for j in range(many)] for i in range(many)]
    return (many, form_of(sides), pairs([1, -1] + [0] * many))


def is_least_over(quadratic, room, told):
    """Whether a pair of a worth and a place is right as the least worth over a room and a place that has it."""
    low, place = told
    held = is_in(room, place) and pair(worth_by_hand(quadratic, numbers(place))) == low
    return held and word_over(quadratic, room, number(low)) != "below"

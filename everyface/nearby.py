"""Places of rooms beside the places near them: whether they are locally least, ways down, and multipliers."""

from everyface.cones import edges_of_ways, word_and_low
from everyface.errors import NotInRoom
from everyface.exact import NIL, all_lots, dot, is_from_nil, only_solution, opposite, product_by, spread
from everyface.forms import check_row
from everyface.quadratics import check_quadratic, check_room_for, slope_there, still_places
from everyface.rooms import is_within
from everyface.words import ABOVE, BELOW

STRICT = "strict"
LEAST = "least"
DOWN = "down"


def word_near(quadratic, room, place):
    """The word of a place beside the places near it: strict, least or down."""
    check_near(quadratic, room, place)
    return word_and_way(quadratic, room, place)[0]


def way_down(quadratic, room, place):
    """A way at the place along which the quadratic falls at first; None if there is none."""
    check_near(quadratic, room, place)
    return word_and_way(quadratic, room, place)[1]


def multipliers(quadratic, room, place):
    """Numbers from 0 on, one for each row, 0 if it is not tight, that make noughts with the slope; None."""
    check_near(quadratic, room, place)
    number, rows, limits = room
    wanted = opposite(slope_there(quadratic, place))
    tight = tight_at(room, place)
    # If there are any, there are some for rows that are free (Caratheodory); for no rows, if the slope is noughts.
    for picks in [()] + all_lots(len(tight)):
        lot = [tight[k] for k in picks]
        found = only_solution([[rows[k][at] for k in lot] for at in range(number)], wanted)
        if found is not None and is_from_nil(found):
            return spread(found, lot, len(rows))
    return None


def strict_places(quadratic, room):
    """All strictly locally least places of the room, in the order in which Python compares tuples."""
    check_quadratic(quadratic)
    check_room_for(quadratic, room)
    places = [place for place in still_places(quadratic, room) if is_strict(quadratic, room, place)]
    return tuple(sorted(places))


def is_strict(quadratic, room, place):
    return word_and_way(quadratic, room, place)[0] == STRICT


def word_and_way(quadratic, room, place):
    """The pair of the word of a place of the room and of a way down, None if there is none."""
    rows = [room[1][k] for k in tight_at(room, place)]
    edges = edges_of_ways(room[0], rows)
    slope = slope_there(quadratic, place)
    for edge in edges:
        if dot(slope, edge)[0] < 0:
            return (DOWN, edge)
    # No edge goes down at once, so the ways that do not go up at once are the cone of these edges.
    word, row = word_and_low(quadratic[0], [edge for edge in edges if dot(slope, edge) == NIL])
    if word == BELOW:
        return (DOWN, row)
    if word == ABOVE:
        return (STRICT, None)
    return (LEAST, None)


def goes_down(quadratic, place, way):
    """Whether the quadratic falls at first from a place on along a way."""
    rise = dot(slope_there(quadratic, place), way)
    return rise[0] < 0 or (rise == NIL and product_by(quadratic[0], way, way)[0] < 0)


def tight_at(room, place):
    """The indexes of the rows that are tight at a place."""
    return [k for k, (row, limit) in enumerate(zip(room[1], room[2])) if dot(row, place) == limit]


def check_near(quadratic, room, place):
    """Checks a quadratic, a room and a place of it."""
    check_quadratic(quadratic)
    check_room_for(quadratic, room)
    check_row(place, room[0])
    if not is_within(room, place):
        raise NotInRoom()

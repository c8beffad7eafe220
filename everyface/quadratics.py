"""Quadratics: their worths and slopes at places; over rooms whether they are bounded, least and greatest worths."""

from everyface.cones import MOST_UNKNOWNS, edges_of_ways, products_of
from everyface.errors import EmptyRoom, Endless, InvalidQuadratic, InvalidRoom
from everyface.exact import (
    LESS, NIL, any_solution, dot, is_less, is_row, lots_of_size, opposite, opposite_rows, plus, product_by,
    sum_of_multiples, table_times, times,
)
from everyface.forms import check_row, is_form
from everyface.rooms import check_room, is_within, places_of
from everyface.words import ABOVE, BELOW, word_and_corners

TWICE = (2, 1)


def is_quadratic(value):
    """Whether a value, whatever it is, is a quadratic."""
    if type(value) != tuple or len(value) != 2:
        return False
    form, slopes = value
    return is_form(form) and len(form) <= MOST_UNKNOWNS and is_row(slopes, len(form))


def worth_at(quadratic, place):
    """The worth of the quadratic at a place."""
    check_quadratic(quadratic)
    check_row(place, len(quadratic[1]))
    return worth_there(quadratic, place)


def slope_at(quadratic, place):
    """The slope of the quadratic at a place, a row."""
    check_quadratic(quadratic)
    check_row(place, len(quadratic[1]))
    return slope_there(quadratic, place)


def is_bounded(quadratic, room):
    """Whether the quadratic is bounded below on the room."""
    check_over(quadratic, room)
    return falling_pair(quadratic, room) is None


def falling(quadratic, room):
    """A place and a way along which the quadratic falls beyond all bounds; None if it is bounded below."""
    check_over(quadratic, room)
    return falling_pair(quadratic, room)


def least_of(quadratic, room):
    """The least worth over the room, and a place that has it."""
    check_over(quadratic, room)
    return least_pair(quadratic, room)


def greatest_of(quadratic, room):
    """The greatest worth over the room, and a place that has it."""
    check_over(quadratic, room)
    form, slopes = quadratic
    low, place = least_pair((opposite_rows(form), opposite(slopes)), room)
    return (times(LESS, low), place)


def worth_there(quadratic, place):
    form, slopes = quadratic
    return plus(product_by(form, place, place), dot(slopes, place))


def slope_there(quadratic, place):
    form, slopes = quadratic
    return tuple([plus(times(TWICE, number), slope) for number, slope in zip(table_times(form, place), slopes)])


def falling_pair(quadratic, room):
    """A place of the room and a way of it along which the quadratic falls for ever; None if there are none."""
    edges = edges_of_ways(room[0], room[1])
    if len(edges) == 0:
        return None
    word, corners = word_and_corners(products_of(quadratic[0], edges))
    if word == ABOVE:
        return None
    places = places_of(room)
    # The corners are those of the worth 0, unless there are worths below 0: then the quadratic falls from each place.
    for multiples in corners:
        way = sum_of_multiples(edges, multiples)
        for place in places:
            if word == BELOW or dot(slope_there(quadratic, place), way)[0] < 0:
                return (place, way)
    return None


def falls_along(quadratic, place, way):
    """Whether the quadratic falls beyond all bounds from a place on along a way."""
    bend = product_by(quadratic[0], way, way)
    return bend[0] < 0 or (bend == NIL and dot(slope_there(quadratic, place), way)[0] < 0)


def least_pair(quadratic, room):
    """The least worth over a room that is not empty, and a place that has it."""
    if falling_pair(quadratic, room) is not None:
        raise Endless()
    pairs = [(worth_there(quadratic, place), place) for place in still_places(quadratic, room)]
    found = pairs[0]
    for pair in pairs:
        if is_less(pair[0], found[0]):
            found = pair
    return found


def still_places(quadratic, room):
    """Places of the room, among them one of the least ones, and all that are strictly less than all near them."""
    places = []
    for size in range(room[0] + 1):
        for lot in lots_of_size(len(room[1]), size):
            place = still_place(quadratic, room, lot)
            if place is not None and place not in places and is_within(room, place):
                places.append(place)
    return places


def still_place(quadratic, room, lot):
    """Any place at the limits of a lot of rows at which the slope is a sum of multiples of these rows; None.

    At a least place with as many free tight rows as can be all solutions for these differ by lines of the room, along
    which the worth stays the same. So it does not matter which one is taken.
    """
    form, slopes = quadratic
    number, rows, limits = room
    lines = [[times(TWICE, value) for value in form[at]] + [rows[k][at] for k in lot] for at in range(number)]
    sides = [list(rows[k]) + [NIL] * len(lot) for k in lot]
    found = any_solution(lines + sides, list(opposite(slopes)) + [limits[k] for k in lot])
    if found is None:
        return None
    return found[:number]


def check_quadratic(quadratic):
    if not is_quadratic(quadratic):
        raise InvalidQuadratic(quadratic)


def check_room_for(quadratic, room):
    check_room(room)
    if room[0] != len(quadratic[1]):
        raise InvalidRoom(room)


def check_over(quadratic, room):
    """Checks a quadratic and a room that is to have a place."""
    check_quadratic(quadratic)
    check_room_for(quadratic, room)
    if len(places_of(room)) == 0:
        raise EmptyRoom()

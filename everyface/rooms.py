"""Rooms with flat sides: whether they are empty, their corners, and places and ways that tell all of their places."""

from everyface.cones import MOST_SIDES, MOST_UNKNOWNS, edges_of_ways
from everyface.errors import InvalidRoom
from everyface.exact import (
    LESS, NIL, all_lots, dot, free_solutions, is_from_nil, is_less, is_row, is_whole, lots_of_size, only_solution,
    spread,
)
from everyface.forms import check_row


def is_room(value):
    """Whether a value, whatever it is, is a room."""
    if type(value) != tuple or len(value) != 3:
        return False
    number, rows, limits = value
    if not is_whole(number) or not 1 <= number <= MOST_UNKNOWNS:
        return False
    if type(rows) != tuple or len(rows) > MOST_SIDES:
        return False
    return all([is_row(row, number) for row in rows]) and is_row(limits, len(rows))


def is_in(room, place):
    """Whether the place is in the room."""
    check_room(room)
    check_row(place, room[0])
    return is_within(room, place)


def is_empty(room):
    """Whether the room has no place."""
    check_room(room)
    return len(places_of(room)) == 0


def barring(room):
    """Numbers from 0 on, one for each row, that show that the room is empty; None if it is not."""
    check_room(room)
    many = len(room[1])
    for lot in all_lots(many):
        multiples = barring_on(room, lot)
        if multiples is not None and is_from_nil(multiples):
            return spread(multiples, lot, many)
    return None


def corners_of_room(room):
    """The corners of the room, in the order in which Python compares tuples."""
    check_room(room)
    if len(free_solutions(room[1], room[0])) > 0:
        return ()
    return places_of(room)


def told_places(room):
    """Places of the room such that each place of it is a mix of these plus a way or noughts."""
    check_room(room)
    return places_of(room)


def room_edges(room):
    """At most six edges the cone of which are the ways of the room."""
    check_room(room)
    return edges_of_ways(room[0], room[1])


def is_within(room, place):
    """Whether a place keeps to all limits of the room."""
    return not any([is_less(limit, dot(row, place)) for row, limit in zip(room[1], room[2])])


def places_of(room):
    """One place on each face of the room that holds no lesser one: without lines these are the corners."""
    number, rows, limits = room
    lines = list(free_solutions(rows, number))
    places = []
    for lot in lots_of_size(len(rows), number - len(lines)):
        # Such a face goes on along the lines alone; one place of it is at right angles to them.
        sides = [limits[k] for k in lot] + [NIL] * len(lines)
        place = only_solution([rows[k] for k in lot] + lines, sides)
        if place is not None and place not in places and is_within(room, place):
            places.append(place)
    return tuple(sorted(places))


def barring_on(room, lot):
    """The only numbers, one for each row of the lot, with noughts as the sum of rows and - 1 as that of limits; None.

    If rows can be barred at all, some of them with just one such row of numbers can be (Caratheodory).
    """
    number, rows, limits = room
    sums = [[rows[k][at] for k in lot] for at in range(number)]
    sums.append([limits[k] for k in lot])
    return only_solution(sums, [NIL] * number + [LESS])


def check_room(room):
    if not is_room(room):
        raise InvalidRoom(room)

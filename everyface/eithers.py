"""Either-or equations: answers and their corners, what can be met and what bars, and games as such equations."""

from everyface.exact import (
    LESS, NIL, ONE, all_lots, both_ways, dot, is_from_nil, least, lot_of, lots_of_size, only_solution, opposite, plus,
    spread, table_times, times, turned,
)
from everyface.forms import check_row
from everyface.mixes import check_game


def is_answer(table, row, other):
    """Whether another row is an answer for a table and a row."""
    check_table_and_row(table, row)
    check_row(other, len(table))
    return answers(table, row, other)


def corner_answers(table, row):
    """All corners of the answers, in the order in which Python compares tuples."""
    check_table_and_row(table, row)
    return corners_of_answers(table, row)


def any_answer(table, row):
    """An answer; None if there is none."""
    check_table_and_row(table, row)
    corners = corners_of_answers(table, row)
    # If there is an answer, there is a corner.
    return None if len(corners) == 0 else corners[0]


def met_by(table, row):
    """A row from 0 on with a rest from 0 on; None if there is none."""
    check_table_and_row(table, row)
    return meeting(table, row)


def barring_row(table, row):
    """A row that bars the table and the row; None if these can be met."""
    check_table_and_row(table, row)
    many = len(table)
    # If there is one, there is one on a lot that is the only one with the sum - 1 and noughts at one place fewer.
    for lot in all_lots(many):
        for places in lots_of_size(many, len(lot) - 1):
            lines = [[table[i][j] for i in lot] for j in places] + [[row[i] for i in lot]]
            found = only_on(lines, [NIL] * len(places) + [LESS], lot, many)
            if found is not None and bars(table, row, found):
                return found
    return None


def form_of(table):
    """The table plus the table turned over."""
    check_game(table)
    return both_ways(table)


def either_of(game):
    """The table and the row whose answers, each divided by its sum, are the even mixes of a game."""
    check_game(game)
    # With c above all numbers of the game c less each number is above 0.
    low = least([times(LESS, number) for line in game for number in line])
    above = plus(times(LESS, low), ONE)
    table = tuple([tuple([plus(above, times(LESS, number)) for number in line]) for line in game])
    return (table, (LESS,) * len(game))


def rest_of(table, row, other):
    """What the table makes of another row, plus the row."""
    return tuple([plus(one, side) for one, side in zip(table_times(table, other), row)])


def meets(table, row, other):
    """Whether another row and its rest are from 0 on."""
    return is_from_nil(other) and is_from_nil(rest_of(table, row, other))


def answers(table, row, other):
    """Whether another row is an answer."""
    if not meets(table, row, other):
        return False
    return all([one == NIL or left == NIL for one, left in zip(other, rest_of(table, row, other))])


def bars(table, row, other):
    """Whether another row from 0 on bars the table and the row."""
    if not is_from_nil(other) or dot(row, other)[0] >= 0:
        return False
    return is_from_nil(opposite(table_times(turned(table), other)))


def corners_of_answers(table, row):
    """All corners of the answers, in the order in which Python compares tuples."""
    many = len(table)
    noughts = (NIL,) * many
    corners = []
    if is_from_nil(row):
        corners.append(noughts)
    for places in all_lots(many):
        for lot in [tuple([places[k] for k in picks]) for picks in all_lots(len(places))]:
            found = only_with_rest(table, row, lot, places)
            if found is not None and lot_of(found) == lot and rest_is_nil_at(table, row, found, places):
                corners.append(found)
    return tuple(sorted(corners))


def rest_is_nil_at(table, row, other, places):
    """Whether the rest is 0 at these places and above 0 at all others."""
    rest = rest_of(table, row, other)
    return is_from_nil(rest) and all([(rest[k] == NIL) == (k in places) for k in range(len(row))])


def meeting(table, row):
    """A row from 0 on with a rest from 0 on; None if there is none."""
    many = len(table)
    if is_from_nil(row):
        return (NIL,) * many
    # If there is one, there is one that is the only one on its lot with a rest of 0 at as many places.
    for lot in all_lots(many):
        for places in lots_of_size(many, len(lot)):
            found = only_with_rest(table, row, lot, places)
            if found is not None and meets(table, row, found):
                return found
    return None


def only_with_rest(table, row, lot, places):
    """The only row from 0 on, 0 off a lot, with a rest of 0 at some places; None if not just one row is such."""
    lines = [[table[i][j] for j in lot] for i in places]
    return only_on(lines, [times(LESS, row[i]) for i in places], lot, len(table))


def only_on(lines, sides, lot, many):
    """The only row, 0 off a lot, whose numbers on it solve the lines, if none is below 0; None."""
    found = only_solution(lines, sides)
    if found is None or not is_from_nil(found):
        return None
    return spread(found, lot, many)


def check_table_and_row(table, row):
    check_game(table)
    check_row(row, len(table))

"""The least worth of a form on shares, and all shares that have it."""

from everyface.errors import InvalidShares
from everyface.exact import (
    LESS, NIL, ONE, all_lots, is_fraction, is_from_nil, least, only_solution, product_by, spread, total,
)
from everyface.forms import check_form, check_lot, check_row


def stand(form, lot):
    """The stand of a lot, a row for all places of the form; None if the lot does not stand."""
    check_form(form)
    check_lot(lot, len(form))
    found = stand_and_worth(form, lot)
    if found is None:
        return None
    return found[0]


def least_worth(form):
    """The least worth of all shares."""
    check_form(form)
    return least_and_corners(form)[0]


def least_corners(form):
    """The stands with the least worth, in the order of their lots."""
    check_form(form)
    return least_and_corners(form)[1]


def least_faces(form):
    """The lots of indexes of corners of which each two go together, those that are within no other."""
    check_form(form)
    low, corners = least_and_corners(form)
    faces = [()]
    for at in range(len(corners)):
        friends = [k for k in range(at) if product_by(form, corners[k], corners[at]) == low]
        joined = [tuple([k for k in face if k in friends] + [at]) for face in faces]
        faces = widest(faces + joined)
    return tuple(faces)


def is_least_place(form, row):
    """Whether the row are shares of the least worth."""
    check_form(form)
    check_row(row, len(form))
    return is_shares(row) and product_by(form, row, row) == least_and_corners(form)[0]


def is_shares(row):
    """Whether a row of fractions are shares."""
    return is_from_nil(row) and total(row) == ONE


def check_shares(shares, many):
    """Raises what is told for shares of so many places, or for a mix."""
    if type(shares) != tuple or len(shares) != many:
        raise InvalidShares(None)
    for at, number in enumerate(shares):
        if not is_fraction(number) or number[0] < 0:
            raise InvalidShares(at)
    if total(shares) != ONE:
        raise InvalidShares(None)


def least_and_corners(form):
    """The pair of the least worth and of the tuple of the corners."""
    stands = stands_of(form)
    low = least([found[2] for found in stands])
    return (low, tuple([found[1] for found in stands if found[2] == low]))


def stands_of(form):
    """For each lot that stands the lot, its stand and the worth of this, in the order of the lots as tuples."""
    pairs = [(lot, stand_and_worth(form, lot)) for lot in all_lots(len(form))]
    return [(lot, *found) for lot, found in pairs if found is not None]


def stand_and_worth(form, lot):
    """The pair of the stand of a lot and its worth; None if the lot does not stand."""
    # The last unknown is the number to which the part leads each place; it is taken off each side.
    rows = [[form[i][j] for j in lot] + [LESS] for i in lot]
    rows.append([ONE] * len(lot) + [NIL])
    solved = only_solution(rows, [NIL] * len(lot) + [ONE])
    if solved is None or any([number[0] <= 0 for number in solved[:-1]]):
        return None
    return (spread(solved[:-1], lot, len(form)), solved[-1])


def widest(lots):
    """The lots that are within no other one of them, each once, in the order of tuples."""
    found = []
    for lot in sorted(set(lots)):
        holders = [other for other in lots if other != lot and all([k in other for k in lot])]
        if len(holders) == 0:
            found.append(lot)
    return found

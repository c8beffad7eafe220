"""Webs of tied places with weights: tied and untied lots, the heaviest ones, and forms that tell of them."""

from everyface.errors import InvalidNumber, InvalidWeb
from everyface.exact import (
    LESS, NIL, all_lots, is_fraction, is_less, is_row, is_whole, lot_of, lowest, plus, spread, times, total,
)
from everyface.forms import check_lot
from everyface.shares import check_shares

MOST_PLACES = 6


def is_web(value):
    """Whether a value, whatever it is, is a web."""
    if type(value) != tuple or len(value) != 3:
        return False
    number, ties, weights = value
    if not is_whole(number) or not 1 <= number <= MOST_PLACES or not are_ties(ties, number):
        return False
    return is_row(weights, number) and all([weight[0] > 0 for weight in weights])


def web_form(web):
    """The form of the web."""
    check_web(web)
    places = range(web[0])
    return tuple([tuple([form_number(web, i, j) for j in places]) for i in places])


def lot_weight(web, lot):
    """The sum of the weights of the places of a lot."""
    check_web(web)
    check_lot(lot, web[0])
    return weight_of(web, lot)


def place_of(web, lot):
    """The shares that have at each place of a lot its weight over that of the lot."""
    check_web(web)
    check_lot(lot, web[0])
    whole = weight_of(web, lot)
    return spread([times(web[2][k], lowest(whole[1], whole[0])) for k in lot], lot, web[0])


def is_tied(web, lot):
    """Whether each two places of a lot are tied."""
    check_web(web)
    check_lot(lot, web[0])
    return are_tied(web, lot)


def full_lots(web):
    """All tied lots to which no place outside is tied as a whole, in the order of tuples."""
    check_web(web)
    return tuple([lot for lot in tied_lots(web) if not can_grow(web, lot)])


def heaviest(web):
    """The greatest weight of a tied lot, and all tied lots of this weight, in the order of tuples."""
    check_web(web)
    return heaviest_of(web, tied_lots(web))


def tied_within(web, shares):
    """A tied lot within the lot of the shares whose place has no greater worth by the form of the web."""
    check_web(web)
    check_shares(shares, web[0])
    within = lot_of(shares)
    # The heaviest of these has the place of the least worth of all shares on that lot.
    return heaviest_of(web, [lot for lot in tied_lots(web) if all([k in within for k in lot])])[1][0]


def untied_number(web):
    """How many places the greatest lot has of which no two are tied."""
    check_web(web)
    return max([len(lot) for lot in all_lots(web[0]) if is_untied(web, lot)])


def untied_form(web, number):
    """The form with the number, less 1, at each place and at tied pairs, and - 1 at others."""
    check_web(web)
    if not is_fraction(number):
        raise InvalidNumber(number)
    places = range(web[0])
    near = plus(number, LESS)
    return tuple([tuple([near if i == j or is_tie(web, i, j) else LESS for j in places]) for i in places])


def is_tie(web, i, j):
    """Whether two places are tied."""
    return (min(i, j), max(i, j)) in web[1]


def form_number(web, i, j):
    """The number of the form of the web in a row and column."""
    if is_tie(web, i, j):
        return NIL
    upright, across = [lowest(web[2][k][1], web[2][k][0]) for k in (i, j)]
    return upright if i == j else plus(upright, across)


def weight_of(web, lot):
    return total([web[2][k] for k in lot])


def are_tied(web, lot):
    return all([is_tie(web, i, j) for i in lot for j in lot if i < j])


def is_untied(web, lot):
    return not any([is_tie(web, i, j) for i in lot for j in lot if i < j])


def tied_lots(web):
    """All tied lots other than (), in the order of tuples."""
    return [lot for lot in all_lots(web[0]) if are_tied(web, lot)]


def can_grow(web, lot):
    """Whether some place outside of a lot is tied to all of its places."""
    others = [k for k in range(web[0]) if k not in lot]
    return any([all([is_tie(web, k, place) for place in lot]) for k in others])


def heaviest_of(web, lots):
    """The greatest weight of some lots, one or more, and those of this weight."""
    best = NIL
    for lot in lots:
        weight = weight_of(web, lot)
        if is_less(best, weight):
            best = weight
    return (best, tuple([lot for lot in lots if weight_of(web, lot) == best]))


def are_ties(value, many):
    """Whether a value, whatever it is, is an ascending tuple of pairs of places."""
    if type(value) != tuple or not all([is_pair(pair, many) for pair in value]):
        return False
    return all([value[k] < value[k + 1] for k in range(len(value) - 1)])


def is_pair(value, many):
    """Whether a value, whatever it is, is a pair of two places, the lower one first."""
    if type(value) != tuple or len(value) != 2 or not is_whole(value[0]) or not is_whole(value[1]):
        return False
    return 0 <= value[0] < value[1] < many


def check_web(web):
    if not is_web(web):
        raise InvalidWeb(web)

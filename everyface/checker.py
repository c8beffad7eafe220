"""The checker: whether a paper shows a claim. It accepts nothing that is not so, whoever wrote the paper.

Each function `accepts_..` takes a claim of its first part, with the right number of parts, and a paper. It may raise an
error of this package for parts or a paper that are not such as the claim has.
"""

from everyface.cones import cone_word, is_way
from everyface.eithers import any_answer, bars, check_table_and_row, is_answer, meets
from everyface.errors import FaceError
from everyface.exact import (
    NIL, all_lots, dot, is_fraction, is_from_nil, is_less, is_noughts, is_row, is_whole, least, lot_of, product_by,
    sum_of_multiples, table_times, turned,
)
from everyface.forms import check_form, check_row
from everyface.mixes import check_game_and_mix, enters, hurts, is_unentered, is_unhurt
from everyface.nearby import DOWN, goes_down, tight_at, word_near
from everyface.quadratics import check_over, falls_along, is_bounded, least_of, worth_at
from everyface.rooms import check_room, is_in
from everyface.shares import check_shares, is_shares
from everyface.sunk import sunk_near
from everyface.webs import heaviest
from everyface.words import ABOVE, BELOW, FROM, is_plus, is_zero


def accepts_word(claim, paper):
    _, form, word = claim
    check_form(form)
    if is_text(word, ABOVE):
        low = least_risen(form, paper)
        return low is not None and low[0] > 0
    if is_text(word, FROM):
        return is_pair(paper) and rise_to(form, paper[0], NIL) and is_zero(form, paper[1])
    return is_text(word, BELOW) and is_from_nil_row(paper, len(form)) and product_by(form, paper, paper)[0] < 0


def accepts_least(claim, paper):
    _, form, low = claim
    check_form(form)
    if not is_fraction(low) or not is_pair(paper):
        return False
    row, risen = paper
    check_shares(row, len(form))
    return product_by(form, row, row) == low and rise_to(form, risen, low)


def accepts_plus(claim, paper):
    return is_nothing(paper) and is_plus(claim[1])


def accepts_not_plus(claim, paper):
    form = claim[1]
    check_form(form)
    if not is_from_nil_row(paper, len(form)):
        return False
    worth = product_by(form, paper, paper)
    return worth[0] < 0 or (worth == NIL and not is_noughts(table_times(form, paper)))


def accepts_sunk(claim, paper):
    _, form, other, many, near = claim
    # True and 1 are equal to Python, but none is told in the place of the other.
    if not is_nothing(paper) or not is_pair(near) or not is_whole(near[0]) or type(near[1]) != bool:
        return False
    return near == sunk_near(form, other, many)


def accepts_cone(claim, paper):
    _, form, edges, word = claim
    found = cone_word(form, edges)
    if not is_text(word, found):
        return False
    if found == ABOVE:
        return is_nothing(paper)
    if not is_from_nil_row(paper, len(edges)):
        return False
    row = sum_of_multiples(edges, paper)
    worth = product_by(form, row, row)
    if found == FROM:
        return worth == NIL and not is_noughts(row)
    return worth[0] < 0


def accepts_holds(claim, paper):
    return is_in(claim[1], paper)


def accepts_empty(claim, paper):
    room = claim[1]
    check_room(room)
    if not is_from_nil_row(paper, len(room[1])):
        return False
    return is_noughts(table_times(turned(room[1]), paper)) and dot(room[2], paper)[0] < 0


def accepts_bounded(claim, paper):
    return is_nothing(paper) and is_bounded(claim[1], claim[2])


def accepts_endless(claim, paper):
    _, quadratic, room = claim
    check_over(quadratic, room)
    if not is_pair(paper) or not is_in(room, paper[0]):
        return False
    return is_row(paper[1], room[0]) and is_way(room[1], paper[1]) and falls_along(quadratic, paper[0], paper[1])


def accepts_least_over(claim, paper):
    _, quadratic, room, low = claim
    if not is_fraction(low) or least_of(quadratic, room)[0] != low:
        return False
    return is_in(room, paper) and worth_at(quadratic, paper) == low


def accepts_near(claim, paper):
    _, quadratic, room, place, word = claim
    found = word_near(quadratic, room, place)
    if not is_text(word, found):
        return False
    if found != DOWN:
        return is_nothing(paper)
    tight = [room[1][k] for k in tight_at(room, place)]
    return is_row(paper, room[0]) and is_way(tight, paper) and goes_down(quadratic, place, paper)


def accepts_heaviest(claim, paper):
    _, web, weight = claim
    best, lots = heaviest(web)
    if not is_fraction(weight) or weight != best:
        return False
    return type(paper) == tuple and all([is_whole(place) for place in paper]) and paper in lots


def accepts_unentered(claim, paper):
    return is_nothing(paper) and is_unentered(claim[1], claim[2])


def accepts_entered(claim, paper):
    check_mixes(claim, paper)
    return enters(claim[1], claim[2], paper)


def accepts_unhurt(claim, paper):
    return is_nothing(paper) and is_unhurt(claim[1], claim[2])


def accepts_hurt(claim, paper):
    check_mixes(claim, paper)
    return hurts(claim[1], claim[2], paper)


def accepts_met(claim, paper):
    check_either(claim, paper)
    return meets(claim[1], claim[2], paper)


def accepts_barred(claim, paper):
    check_either(claim, paper)
    return bars(claim[1], claim[2], paper)


def accepts_answered(claim, paper):
    return is_answer(claim[1], claim[2], paper)


def accepts_unanswered(claim, paper):
    return is_nothing(paper) and any_answer(claim[1], claim[2]) is None


def is_text(value, text):
    """Whether a value, whatever it is, is a text."""
    return type(value) == str and value == text


def is_nothing(value):
    """Whether a value, whatever it is, is ()."""
    return type(value) == tuple and len(value) == 0


def is_pair(value):
    """Whether a value, whatever it is, is a tuple of two."""
    return type(value) == tuple and len(value) == 2


def is_from_nil_row(value, many):
    """Whether a value, whatever it is, is a row from 0 on of so many fractions."""
    return is_row(value, many) and is_from_nil(value)


def rise_to(form, rows, low):
    """Whether rows are shares, one for each lot, that the part on it leads to a number at least, at each place."""
    found = least_risen(form, rows)
    return found is not None and not is_less(found, low)


def least_risen(form, rows):
    """The least number to which the parts on the lots lead shares, one for each lot; None if the rows are not such."""
    lots = all_lots(len(form))
    if type(rows) != tuple or len(rows) != len(lots):
        return None
    found = []
    for row, lot in zip(rows, lots):
        if not is_row(row, len(form)) or not is_shares(row) or any([place not in lot for place in lot_of(row)]):
            return None
        # The row is 0 off the lot, so the form leads it to the same on the lot as the part does.
        reached = table_times(form, row)
        found += [reached[place] for place in lot]
    return least(found)


def check_mixes(claim, paper):
    """Checks the game and the mix of a claim, and another mix as its paper."""
    _, game, mix = claim
    check_game_and_mix(game, mix)
    check_shares(paper, len(game))


def check_either(claim, paper):
    """Checks the table and the row of a claim, and another row as its paper."""
    _, table, row = claim
    check_table_and_row(table, row)
    check_row(paper, len(table))


PARTS = {
    "word": 3, "least": 3, "plus": 2, "not plus": 2, "sunk": 5, "cone": 4, "holds": 2, "empty": 2, "bounded": 3,
    "endless": 3, "least over": 4, "near": 5, "heaviest": 3, "unentered": 3, "entered": 3, "unhurt": 3, "hurt": 3,
    "met": 3, "barred": 3, "answered": 3, "unanswered": 3,
}

CHECKS = {
    "word": accepts_word, "least": accepts_least, "plus": accepts_plus, "not plus": accepts_not_plus,
    "sunk": accepts_sunk, "cone": accepts_cone, "holds": accepts_holds, "empty": accepts_empty,
    "bounded": accepts_bounded, "endless": accepts_endless, "least over": accepts_least_over, "near": accepts_near,
    "heaviest": accepts_heaviest, "unentered": accepts_unentered, "entered": accepts_entered,
    "unhurt": accepts_unhurt, "hurt": accepts_hurt, "met": accepts_met, "barred": accepts_barred,
    "answered": accepts_answered, "unanswered": accepts_unanswered,
}


def accepts(claim, paper):
    """Whether the claim is one for the checker and the paper is one that shows it, whatever both are."""
    if type(claim) != tuple or len(claim) == 0 or type(claim[0]) != str or claim[0] not in CHECKS:
        return False
    if len(claim) != PARTS[claim[0]]:
        return False
    check = CHECKS[claim[0]]
    # The functions that the parts are passed to tell by their errors which parts are no such ones.
    try:
        return check(claim, paper)
    except FaceError:
        return False

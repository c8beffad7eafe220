"""Certificates: claims for the checker and papers that show them; of claims that exclude one another, the one so."""

from everyface.cones import check_edges, word_and_multiples
from everyface.eithers import any_answer, barring_row, met_by
from everyface.exact import all_lots, is_noughts, table_times
from everyface.forms import check_form
from everyface.mixes import entering, hurting
from everyface.nearby import way_down, word_near
from everyface.quadratics import falling, least_of
from everyface.rooms import barring, told_places
from everyface.shares import least_and_corners, stands_of
from everyface.sunk import sunk_near
from everyface.webs import heaviest
from everyface.words import ABOVE, BELOW, FROM, is_plus, lowest_within, rising_rows, word_and_corners


def certify_word(form):
    """A claim of the word of a form, and its paper."""
    check_form(form)
    word, corners = word_and_corners(form)
    claim = ("word", form, word)
    if word == ABOVE:
        return (claim, rising_rows(form))
    if word == FROM:
        return (claim, (rising_rows(form), corners[0]))
    return (claim, corners[0])


def certify_least(form):
    """A claim of the least worth of a form, and its paper."""
    check_form(form)
    low, corners = least_and_corners(form)
    stands = stands_of(form)
    risen = [lowest_within(stands, lot)[0] for lot in all_lots(len(form))]
    return (("least", form, low), (corners[0], tuple(risen)))


def certify_plus(form):
    """A claim of whether a form is plus, and its paper."""
    if is_plus(form):
        return (("plus", form), ())
    word, corners = word_and_corners(form)
    if word == BELOW:
        return (("not plus", form), corners[0])
    led_on = [row for row in corners if not is_noughts(table_times(form, row))]
    return (("not plus", form), led_on[0])


def certify_sunk(form, other, many):
    """A claim of the number, near, down to which a form is sunk by another one, and its paper."""
    near = sunk_near(form, other, many)
    return (("sunk", form, other, many, near), ())


def certify_cone(form, edges):
    """A claim of the word of a form on a cone, and its paper."""
    check_form(form)
    check_edges(edges, len(form))
    word, multiples = word_and_multiples(form, edges)
    return (("cone", form, edges, word), multiples)


def certify_room(room):
    """A claim of whether a room is empty, and its paper."""
    row = barring(room)
    if row is None:
        return (("holds", room), told_places(room)[0])
    return (("empty", room), row)


def certify_bounded(quadratic, room):
    """A claim of whether a quadratic is bounded below on a room, and its paper."""
    pair = falling(quadratic, room)
    if pair is None:
        return (("bounded", quadratic, room), ())
    return (("endless", quadratic, room), pair)


def certify_least_over(quadratic, room):
    """A claim of the least worth of a quadratic over a room, and its paper."""
    low, place = least_of(quadratic, room)
    return (("least over", quadratic, room, low), place)


def certify_near(quadratic, room, place):
    """A claim of the word of a place beside those near it, and its paper."""
    claim = ("near", quadratic, room, place, word_near(quadratic, room, place))
    return (claim, told_or_nothing(way_down(quadratic, room, place)))


def certify_heaviest(web):
    """A claim of the greatest weight of a tied lot, and its paper."""
    weight, lots = heaviest(web)
    return (("heaviest", web, weight), lots[0])


def certify_entering(game, mix):
    """A claim of whether a mix is entered, and its paper."""
    other = entering(game, mix)
    return (("unentered" if other is None else "entered", game, mix), told_or_nothing(other))


def certify_hurting(game, mix):
    """A claim of whether a mix is hurt, and its paper."""
    other = hurting(game, mix)
    return (("unhurt" if other is None else "hurt", game, mix), told_or_nothing(other))


def certify_met(table, row):
    """A claim of whether a table and a row can be met, and its paper."""
    found = met_by(table, row)
    if found is None:
        return (("barred", table, row), barring_row(table, row))
    return (("met", table, row), found)


def certify_answer(table, row):
    """A claim of whether there is an answer, and its paper."""
    found = any_answer(table, row)
    return (("unanswered" if found is None else "answered", table, row), told_or_nothing(found))


def told_or_nothing(found):
    """What was found; () for None."""
    return () if found is None else found

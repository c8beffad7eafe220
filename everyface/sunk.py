"""Down to which number a form is sunk by another one whose word is above, told near."""

from everyface.errors import InvalidForm, InvalidNumber, NotAbove
from everyface.exact import is_whole, lowest, plus, product_by, times
from everyface.forms import check_form
from everyface.words import ABOVE, BELOW, FROM, word_and_corners

MOST_PARTS = 1000000


def sunk_near(form, other, many):
    """The greatest whole number that is, divided by `many`, not above the number, and whether this is the number."""
    check_form(form)
    check_other(other, len(form))
    check_many(many)
    word, corners = word_and_corners(other)
    if word != ABOVE:
        raise NotAbove()
    word = BELOW
    # What a row tells is never too low. While it is too high, the row that shows this tells less.
    while word == BELOW:
        count = told_by(corners[0], form, other, many)
        word, corners = word_and_corners(less_multiple(form, other, lowest(count, many)))
    return (count, word == FROM)


def told_by(row, form, other, many):
    """The greatest whole number up to `many` times the worth of a row by the form over that by the other."""
    high = product_by(form, row, row)
    low = product_by(other, row, row)
    return many * high[0] * low[1] // (high[1] * low[0])


def less_multiple(form, other, factor):
    """The form, each number less the factor times that of the other."""
    taken = (-factor[0], factor[1])
    return tuple([
        tuple([plus(number, times(taken, less)) for number, less in zip(line, less_line)])
        for line, less_line in zip(form, other)
    ])


def check_other(other, many):
    check_form(other)
    if len(other) != many:
        raise InvalidForm(other)


def check_many(many):
    if not is_whole(many) or not 1 <= many <= MOST_PARTS:
        raise InvalidNumber(many)

"""The word of a form: whether the worths of all rows from 0 on, but noughts, are above 0, from 0 on, or some below."""

from everyface.exact import NIL, all_lots, is_from_nil, is_less, is_noughts, product_by, table_times
from everyface.forms import check_form, check_row
from everyface.shares import least_and_corners, stands_of

ABOVE = "above"
FROM = "from"
BELOW = "below"


def word_of(form):
    """The word of a form."""
    check_form(form)
    return word_and_corners(form)[0]


def low_row(form):
    """Shares of a worth below 0; None if there are none."""
    check_form(form)
    word, corners = word_and_corners(form)
    if word == BELOW:
        return corners[0]
    return None


def rising_rows(form):
    """Shares on each lot that its part leads to a row from 0 on, above 0 if the word is so; None if it is below."""
    check_form(form)
    stands = stands_of(form)
    # The part on a lot leads the corners of the part to its least worth at least, at each place.
    lowest_stands = [lowest_within(stands, lot) for lot in all_lots(len(form))]
    if not is_from_nil([low for row, low in lowest_stands]):
        return None
    return tuple([row for row, low in lowest_stands])


def is_zero(form, row):
    """Whether the row is from 0 on, other than noughts, and of the worth 0."""
    check_form(form)
    check_row(row, len(form))
    return is_from_nil(row) and not is_noughts(row) and product_by(form, row, row) == NIL


def is_plus(form):
    """Whether the word is not below, and the form leads each zero to noughts."""
    check_form(form)
    word, corners = word_and_corners(form)
    if word == FROM:
        return all([is_noughts(table_times(form, row)) for row in corners])
    return word == ABOVE


def word_and_corners(form):
    """The pair of the word and of the tuple of the corners."""
    low, corners = least_and_corners(form)
    return (word_of_worth(low), corners)


def word_of_worth(low):
    """The word of a form with this least worth."""
    if low[0] > 0:
        return ABOVE
    if low[0] == 0:
        return FROM
    return BELOW


def lowest_within(stands, lot):
    """The pair of the first stand with the least worth, of the stands on lots within the lot, and of this worth."""
    found = None
    for other, row, low in stands:
        if all([place in lot for place in other]) and (found is None or is_less(low, found[1])):
            found = (row, low)
    return found

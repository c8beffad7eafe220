"""Forms, the rows that they lead to, products and worths; and the errors that are told for these arguments."""

from everyface.errors import InvalidForm, InvalidLot, InvalidRow
from everyface.exact import is_fraction, is_row, is_whole, product_by, table_times

MOST_ROWS = 6


def is_form(value):
    """Whether a value, whatever it is, is a form."""
    if type(value) != tuple or not 1 <= len(value) <= MOST_ROWS:
        return False
    places = range(len(value))
    if not all([is_row(row, len(value)) for row in value]):
        return False
    return all([value[i][j] == value[j][i] for i in places for j in places])


def led(form, row):
    """The row to which the form leads a row."""
    check_form(form)
    check_row(row, len(form))
    return table_times(form, row)


def product(form, row, column):
    """The product of two rows by the form."""
    check_form(form)
    check_row(row, len(form))
    check_row(column, len(form))
    return product_by(form, row, column)


def worth(form, row):
    """The product of a row and itself by the form."""
    check_form(form)
    check_row(row, len(form))
    return product_by(form, row, row)


def part_of(form, lot):
    """The form that has the numbers of the form in the rows and columns of the lot."""
    check_form(form)
    check_lot(lot, len(form))
    return tuple([tuple([form[i][j] for j in lot]) for i in lot])


def check_form(form):
    if not is_form(form):
        raise InvalidForm(form)


def check_row(row, many):
    if type(row) != tuple or len(row) != many:
        raise InvalidRow(None)
    for at, number in enumerate(row):
        if not is_fraction(number):
            raise InvalidRow(at)


def check_lot(lot, many):
    if type(lot) != tuple or len(lot) == 0:
        raise InvalidLot(None)
    lowest_place = 0
    for at, place in enumerate(lot):
        if not is_whole(place) or not lowest_place <= place < many:
            raise InvalidLot(at)
        lowest_place = place + 1

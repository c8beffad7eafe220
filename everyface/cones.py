"""Words of forms on the cones of edges, and edges of the ways of rows."""

from everyface.errors import InvalidEdges, InvalidNumber, InvalidRow
from everyface.exact import (
    dot, free_solutions, is_noughts, is_row, is_whole, lots_of_size, opposite, product_by, sum_of_multiples,
)
from everyface.forms import check_form
from everyface.words import ABOVE, word_and_corners

MOST_EDGES = 6
MOST_SIDES = 6
MOST_UNKNOWNS = 3


def cone_form(form, edges):
    """The product form of a form and one edge or more."""
    check_form(form)
    check_edges(edges, len(form))
    if len(edges) == 0:
        raise InvalidEdges(None)
    return products_of(form, edges)


def cone_word(form, edges):
    """The word of a form on the cone of the edges."""
    check_form(form)
    check_edges(edges, len(form))
    return word_and_low(form, edges)[0]


def cone_low(form, edges):
    """A row of the cone, not noughts, with a worth below 0, or of 0 if none is below; None if all are above 0."""
    check_form(form)
    check_edges(edges, len(form))
    return word_and_low(form, edges)[1]


def ways_edges(number, rows):
    """At most six edges the cone of which are the ways of the rows, which have so many fractions each."""
    check_unknowns(number)
    check_rows(rows, number)
    return edges_of_ways(number, rows)


def products_of(form, edges):
    """The form of the products of each two edges."""
    return tuple([tuple([product_by(form, one, other) for other in edges]) for one in edges])


def word_and_low(form, edges):
    """The pair of the word on the cone and of a row of it that shows that the word is not above, None if it is."""
    word, multiples = word_and_multiples(form, edges)
    if word == ABOVE:
        return (ABOVE, None)
    return (word, sum_of_multiples(edges, multiples))


def word_and_multiples(form, edges):
    """The pair of the word on the cone and of multiples that make a row that shows it; () for above."""
    if len(edges) == 0:
        return (ABOVE, ())
    word, corners = word_and_corners(products_of(form, edges))
    if word == ABOVE:
        return (ABOVE, ())
    for multiples in corners:
        # Multiples other than noughts may make noughts, where there are lines.
        if not is_noughts(sum_of_multiples(edges, multiples)):
            return (word, multiples)
    return (ABOVE, ())


def edges_of_ways(number, rows):
    """The edges of the ways of rows: lines, each with its opposite, and the ways at which single faces are tight."""
    lines = free_solutions(rows, number)
    edges = list(lines) + [opposite(line) for line in lines]
    for lot in lots_of_size(len(rows), number - len(lines) - 1):
        # At right angles to the lines such a face has but one row and its multiples.
        along = free_solutions([rows[k] for k in lot] + list(lines), number)
        if len(along) == 1:
            for way in (along[0], opposite(along[0])):
                if is_way(rows, way) and way not in edges:
                    edges.append(way)
    return tuple(edges)


def is_way(rows, way):
    return all([dot(row, way)[0] <= 0 for row in rows])


def check_edges(edges, many):
    if type(edges) != tuple:
        raise InvalidEdges(None)
    for at, edge in enumerate(edges):
        if at >= MOST_EDGES or not is_row(edge, many) or is_noughts(edge):
            raise InvalidEdges(at)


def check_unknowns(number):
    if not is_whole(number) or not 1 <= number <= MOST_UNKNOWNS:
        raise InvalidNumber(number)


def check_rows(rows, number):
    if type(rows) != tuple:
        raise InvalidRow(None)
    for at, row in enumerate(rows):
        if at >= MOST_SIDES or not is_row(row, number):
            raise InvalidRow(at)

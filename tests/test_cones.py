from copy import deepcopy
from fractions import Fraction
from itertools import product as all_of
from random import Random

from everyface.cones import cone_form, cone_low, cone_word, ways_edges
from everyface.errors import InvalidEdges, InvalidForm, InvalidNumber, InvalidRow
from everyface.forms import is_form, product, worth
from everyface.words import word_of
from tests.samples import (
    CROSS, DIP, FIRM, FLAT, FaceCase, HALF, HORN, HUMP, LESS, NIL, NO_FORMS, NO_FRACTIONS, NO_LOTS, NO_NUMBERS, ONE,
    OTHER_SORTS, SINGLE, SMALL, TWO, any_form, form_of, great_number, in_cone, many_forms, number, numbers, pairs,
    some_rows, table, told_word, units, ways_of, with_zero,
)

RIGHT = ((LESS, NIL), (NIL, LESS))
ALONG = ((ONE, LESS), (LESS, ONE))
WHOLE = ((ONE, NIL), (LESS, NIL), (NIL, ONE), (NIL, LESS))
SLANTS = ((ONE, ONE), (ONE, LESS))
ALL = {1: ((ONE,), (LESS,)), 2: WHOLE, 3: form_of(units(3) + [[-x for x in row] for row in units(3)])}
NO_TUPLES = [value for value in NO_LOTS if value != ()]
FEW = [-2, -1, -1, 0, 0, 1, 1, 2, Fraction(1, 2), Fraction(-1, 3)]
SIX_FLAT = ((NIL,) * 6,) * 6


def some_edges(chance, many, size):
    """Edges among which are often the same ones, multiples, opposites."""
    edges = []
    while len(edges) < size:
        edges += [row for row in some_rows(chance, many, 1, FEW) if any(row)]
        if edges and chance.randrange(3) == 0:
            by = chance.choice([-1, -2, 3, Fraction(1, 2), Fraction(-1, 5)])
            edges.append([by * value for value in chance.choice(edges)])
    return form_of(edges[:size])


def sum_of(edges, multiples):
    return [sum([m * number(edge[at]) for m, edge in zip(multiples, edges)]) for at in range(len(edges[0]))]


class Examples(FaceCase):
    def test_the_document(self):
        self.assertEqual(
            [cone_form(DIP, SLANTS), cone_word(DIP, ((ONE, NIL), (ONE, LESS))),
             cone_word(DIP, ((ONE, NIL), (TWO, ONE))), cone_word(CROSS, ((ONE, ONE), (ONE, NIL))),
             cone_word(HUMP, ALONG), cone_word(DIP, ())],
            [(((-2, 1), (0, 1)), ((0, 1), (6, 1))), "above", "below", "from", "above", "above"])
        self.assertEqual(
            [cone_word(DIP, ways_edges(2, RIGHT)), cone_word(CROSS, ways_edges(2, RIGHT)),
             cone_word(((ONE,),), ways_edges(1, ())), cone_word(CROSS, ways_edges(2, ((ONE, NIL), (LESS, NIL)))),
             ways_edges(1, ((ONE,), (LESS,)))],
            ["below", "from", "above", "from", ()])
        self.assertEqual(
            [cone_low(HUMP, ALONG), worth(CROSS, cone_low(CROSS, ((ONE, ONE), (ONE, NIL)))),
             worth(DIP, cone_low(DIP, ways_edges(2, RIGHT)))[0] < 0],
            [None, (0, 1), True])
        self.told(InvalidEdges, "index", 1, cone_word, DIP, ((ONE, NIL), (NIL, NIL)))


class ProductForms(FaceCase):
    def test_products_of_edges_as_they_are_passed(self):
        chance = Random(70)
        for form in many_forms(71, 2):
            for size in range(1, 7):
                edges = some_edges(chance, len(form), size)
                with self.subTest(form=form, edges=edges):
                    told = cone_form(form, edges)
                    self.assertEqual(told, tuple([tuple([product(form, x, y) for y in edges]) for x in edges]))
                    self.assertIs(is_form(told), True)

    def test_the_worth_at_a_sum_is_that_of_the_multiples(self):
        chance = Random(72)
        for form in many_forms(73, 2):
            edges = some_edges(chance, len(form), chance.randrange(1, 7))
            multiples = [chance.choice(SMALL) for _ in edges]
            self.assertEqual(worth(cone_form(form, edges), pairs(multiples)),
                             worth(form, pairs(sum_of(edges, multiples))))

    def test_as_many_edges_as_are_passed(self):
        self.assertEqual(cone_form(FIRM, ((ONE, NIL),)), ((TWO,),))
        self.assertEqual(cone_form(FIRM, ((ONE, NIL), (ONE, NIL))), ((TWO, TWO), (TWO, TWO)))
        self.assertEqual(cone_form(SINGLE, ((ONE,), (LESS,))), (((5, 3), (-5, 3)), ((-5, 3), (5, 3))))

    def test_no_edges(self):
        self.told(InvalidEdges, "index", None, cone_form, FIRM, ())
        self.told(InvalidEdges, "index", None, cone_form, edges=(), form=SINGLE)

    def test_great_numbers(self):
        chance = Random(74)
        form = any_form(chance, 3, [great_number(chance) for _ in range(9)])
        edges = form_of([[great_number(chance) for _ in range(3)] for _ in range(3)])
        told = cone_form(form, edges)
        self.assertEqual(told[0][2], product(form, edges[0], edges[2]))
        self.assertIs(is_form(told), True)
        self.assertIn(cone_word(form, edges), ("above", "below"))
        self.assertEqual(cone_word(form, edges), word_of(told))


class ConeWords(FaceCase):
    def is_shown(self, form, edges, word):
        """Looks whether a row of the cone shows that the word is not above."""
        row = cone_low(form, edges)
        if word == "above":
            self.assertIsNone(row)
            return
        self.is_row(row, len(form))
        self.assertTrue(any(numbers(row)))
        self.assertTrue(in_cone(numbers(row), [numbers(edge) for edge in edges]))
        self.assertEqual(number(worth(form, row)) < 0, word == "below")
        self.assertEqual(worth(form, row) == NIL, word == "from")

    def test_a_row_shows_what_is_told_and_no_sum_breaks_it(self):
        chance = Random(75)
        seen = set()
        for form in many_forms(76, 3):
            for size in range(1, 7):
                edges = some_edges(chance, len(form), size)
                word = cone_word(form, edges)
                with self.subTest(form=form, edges=edges):
                    self.is_shown(form, edges, word)
                    self.assertEqual(word == "below", told_word(cone_form(form, edges)) == "below")
                    self.not_broken(form, edges, word)
                seen.add((word, len(form) > 3, size > 3))
        self.assertEqual(len(seen), 12)

    def not_broken(self, form, edges, word):
        for multiples in list(all_of(range(3), repeat=min(len(edges), 4)))[1:]:
            row = sum_of(edges, multiples)
            there = number(worth(form, pairs(row)))
            if word != "below":
                self.assertGreaterEqual(there, 0)
            if word == "above" and any(row):
                self.assertGreater(there, 0)

    def test_forms_of_just_one_line_of_zeros(self):
        chance = Random(77)
        seen = set()
        for _ in range(150):
            many = chance.randrange(1, 5)
            zero = [chance.choice([0, 1, 2, Fraction(1, 2)]) for _ in range(many - 1)] + [1]
            form = form_of(with_zero(chance, zero))
            edges = some_edges(chance, many, chance.randrange(1, 7))
            if chance.randrange(2):
                # The zero, or its opposite, is now the sum of two edges.
                by = chance.choice([-3, -1, 1, 2])
                rest = pairs([by * value - number(x) for value, x in zip(zero, edges[0])])
                edges = tuple([edge for edge in (rest, *edges[:5]) if any(numbers(edge))])
            plain = [numbers(edge) for edge in edges]
            held = in_cone(zero, plain) or in_cone([-value for value in zero], plain)
            word = "from" if held and edges else "above"
            with self.subTest(form=form, edges=edges):
                self.assertEqual(cone_word(form, edges), word)
                self.is_shown(form, edges, word)
            seen.add((word, many))
        self.assertGreaterEqual(len(seen), 7)

    def test_on_the_edges_of_all_rows_from_nought_on_it_is_the_word(self):
        for form in many_forms(78, 2) + [HORN]:
            edges = form_of(units(len(form)))
            self.assertEqual(cone_word(form, edges), word_of(form))
            self.is_shown(form, edges, word_of(form))

    def test_no_edges(self):
        for form in [DIP, FLAT, ((NIL,),), ((LESS,),), SIX_FLAT, HORN]:
            self.assertEqual(cone_word(form, ()), "above")
            self.assertIsNone(cone_low(form, ()))

    def test_one_edge(self):
        self.assertEqual([cone_word(DIP, (edge,)) for edge in SLANTS], ["below", "above"])
        self.assertEqual(cone_word(HUMP, ((TWO, TWO),)), "from")
        self.assertEqual(worth(HUMP, cone_low(HUMP, ((TWO, TWO),))), NIL)
        self.assertEqual(cone_word(HUMP, ((LESS, LESS),)), "from")
        self.assertEqual(cone_low(HUMP, ((LESS, LESS),))[0][0], -1)

    def test_multiples_of_one_another(self):
        for edges in [((ONE, ONE), (TWO, TWO)), ((HALF, HALF),) * 6, ((TWO, TWO), (ONE, ONE), (HALF, HALF))]:
            for form, word in [(DIP, "below"), (HUMP, "from"), (FIRM, "above"), (FLAT, "from")]:
                self.assertEqual(cone_word(form, edges), word)
                self.is_shown(form, edges, word)

    def test_cones_with_lines(self):
        for form, word in [(FIRM, "above"), (HUMP, "from"), (CROSS, "below"), (DIP, "below"), (FLAT, "from")]:
            self.assertEqual(cone_word(form, WHOLE), word)
            self.is_shown(form, WHOLE, word)
        for form, word in [(FIRM, "above"), (HUMP, "above"), (CROSS, "below"), (DIP, "above"), (FLAT, "from")]:
            self.assertEqual(cone_word(form, ALONG), word)
            self.is_shown(form, ALONG, word)
        half = ((ONE, LESS), (LESS, ONE), (ONE, ONE))
        self.assertEqual(cone_word(HUMP, half), "from")
        self.is_shown(HUMP, half, "from")

    def test_lines_that_only_several_edges_make(self):
        edges = ((ONE, NIL), (NIL, ONE), ((-1, 1), (-1, 1)))
        for form, word in [(FIRM, "above"), (HUMP, "from"), (DIP, "below"), (CROSS, "below")]:
            self.assertEqual(cone_word(form, edges), word)
            self.is_shown(form, edges, word)
        three = form_of(units(3) + [[-1, -1, 0], [0, 0, -5], [1, 1, 1]])
        for diagonal, word in [([1, 1, 1], "above"), ([1, 1, 0], "from"), ([1, 1, -1], "below")]:
            form = form_of([[value if i == j else 0 for j in range(3)] for i, value in enumerate(diagonal)])
            self.assertEqual(cone_word(form, three), word)
            self.is_shown(form, three, word)

    def test_zeros_of_multiples_that_make_noughts_and_others(self):
        # Both (1, 1, 0) and (0, 0, 1) are zeros of the product form; only the first makes noughts.
        form = form_of([[1, 0], [0, 0]])
        self.assertEqual(cone_word(form, ((ONE, NIL), (LESS, NIL), (NIL, TWO))), "from")
        self.assertEqual(cone_low(form, ((ONE, NIL), (LESS, NIL), (NIL, TWO)))[0], NIL)
        self.assertEqual(cone_word(form, ((ONE, NIL), (LESS, NIL), (ONE, TWO))), "from")
        self.assertEqual(cone_word(form, ((ONE, NIL), (LESS, NIL))), "above")

    def test_the_order_and_the_length_of_edges(self):
        chance = Random(79)
        for form in many_forms(80, 2):
            edges = some_edges(chance, len(form), 4)
            longer = tuple([pairs([x * chance.choice([3]) for x in numbers(edge)]) for edge in edges[::-1]])
            self.assertEqual(cone_word(form, longer), cone_word(form, edges))
            self.assertEqual(cone_word(form, edges + edges[:2]), cone_word(form, edges))

    def test_tiny_worths(self):
        for tiny, word in [(0, "from"), (Fraction(1, 10 ** 300), "above"), (Fraction(-1, 10 ** 300), "below")]:
            form = form_of([[1 + tiny, -1], [-1, 1]])
            for edges in (SLANTS, WHOLE, ((ONE, ONE), (TWO, ONE), (ONE, TWO))):
                self.assertEqual(cone_word(form, edges), word)
                self.is_shown(form, edges, word)

    def test_by_name(self):
        self.assertEqual(cone_form(edges=SLANTS, form=DIP), cone_form(DIP, SLANTS))
        self.assertEqual(cone_word(edges=SLANTS, form=DIP), "below")
        self.assertEqual(cone_low(edges=SLANTS, form=DIP), cone_low(DIP, SLANTS))
        self.assertEqual(ways_edges(rows=RIGHT, number=2), ways_edges(2, RIGHT))


class Ways(FaceCase):
    def are_edges(self, many, rows):
        told = ways_edges(many, rows)
        self.assertIs(type(told), tuple)
        self.assertLessEqual(len(told), 6)
        sides, edges = [numbers(row) for row in rows], [numbers(edge) for edge in told]
        for edge in told:
            self.is_row(edge, many)
            self.assertTrue(any(numbers(edge)))
        for edge in edges:
            self.assertLessEqual(max([sum([a * b for a, b in zip(side, edge)]) for side in sides] + [0]), 0)
        for way in ways_of(many, sides):
            self.assertTrue(in_cone(way, edges), (way, told))
        return len(told)

    def test_many_rows(self):
        chance = Random(81)
        seen = set()
        for _ in range(60):
            for many in (1, 2, 3):
                for size in range(7):
                    rows = form_of(some_rows(chance, many, size, FEW))
                    with self.subTest(rows=rows):
                        seen.add((many, self.are_edges(many, rows)))
        self.assertEqual(sorted(seen), [(many, size) for many in (1, 2, 3) for size in range(2 * many + 1)])

    def test_six_sides_of_six_edges(self):
        around = [[1, 0, -1], [2, 2, -3], [0, 1, -1], [-1, 0, -1], [-2, -2, -3], [0, -1, -1]]
        self.assertEqual(self.are_edges(3, form_of(around)), 6)
        touched = [[1, 0, -1], [1, 1, -2], [0, 1, -1], [-1, 0, -1], [-1, -1, -2], [0, -1, -1]]
        self.assertEqual(self.are_edges(3, form_of(touched)), 4)
        wide = [[2, 1, -4], [0, 3, -4], [-2, 1, -4], [-2, -1, -4], [0, -3, -4], [2, -1, -4]]
        self.assertEqual(self.are_edges(3, form_of(wide)), 6)

    def test_rows_that_add_no_side_add_no_edge_beyond_six(self):
        five = [[0, -2, 0], [-1, 0, -2], [-1, -2, 0], [2, -2, -1], [-2, 1, -1]]
        for row in [[0, 0, 0]] + five:
            self.assertLessEqual(self.are_edges(3, form_of(five + [row])), 6)
            self.assertLessEqual(self.are_edges(3, form_of([row] + five)), 6)

    def test_no_rows_and_noughts(self):
        for many in (1, 2, 3):
            for size in range(7):
                self.assertEqual(self.are_edges(many, ((NIL,) * many,) * size), 2 * many)
                self.assertEqual(cone_word(form_of(units(many)), ways_edges(many, ((NIL,) * many,) * size)), "above")

    def test_lines_are_told_with_their_opposites(self):
        for many, rows in [(1, ()), (2, ()), (3, ()), (2, ((ONE, NIL),)), (3, ((ONE, ONE, NIL),)),
                           (3, ((ONE, ONE, NIL), (NIL, ONE, ONE))), (2, ((ONE, TWO), (LESS, (-2, 1))))]:
            edges = [numbers(edge) for edge in ways_edges(many, rows)]
            lines = [edge for edge in edges if [-value for value in edge] in edges]
            ways = ways_of(many, [numbers(row) for row in rows])
            self.assertEqual(all([in_cone([-value for value in way], edges) for way in ways]), len(lines) == len(edges))
            self.assertEqual(len(lines) % 2, 0)
            self.assertTrue(lines)

    def test_opposite_rows(self):
        for many in (1, 2, 3):
            row = (TWO,) + (NIL,) * (many - 1)
            told = ways_edges(many, (row, ((-1, 1),) + (NIL,) * (many - 1)))
            self.assertEqual(len(told), 2 * (many - 1))
            self.assertTrue(all([edge[0] == NIL for edge in told]))
        self.assertEqual(ways_edges(3, form_of(units(3) + [[-x for x in row] for row in units(3)])), ())
        self.assertEqual(ways_edges(2, form_of([[1, 0], [0, 1], [-1, -1]])), ())

    def test_single_rays_and_half_spaces(self):
        self.assertEqual(self.are_edges(1, ((ONE,),)), 1)
        self.assertEqual(self.are_edges(1, ((LESS,), ((-7, 3),), (NIL,))), 1)
        self.assertEqual(self.are_edges(2, form_of([[1, 0], [-1, 0], [0, 1]])), 1)
        self.assertEqual(self.are_edges(2, ((ONE, ONE),)), 3)
        self.assertEqual(self.are_edges(3, ((ONE, ONE, LESS),)), 5)
        self.assertEqual(self.are_edges(3, form_of([[1, 0, 0], [0, 1, 0]])), 4)
        self.assertEqual(self.are_edges(3, form_of([[1, 0, 0], [0, 1, 0], [0, 0, 1]])), 3)
        self.assertEqual(self.are_edges(3, form_of([[1, 0, 0], [-1, 0, 0], [0, 1, 0], [0, -1, 0], [0, 0, -1]])), 1)

    def test_thin_ones_and_great_numbers(self):
        tiny = Fraction(1, 10 ** 300)
        self.assertEqual(self.are_edges(2, form_of([[1, -tiny], [-1, -tiny]])), 2)
        self.assertEqual(self.are_edges(2, form_of([[1, -tiny], [-1, 0]])), 2)
        self.assertEqual(self.are_edges(2, form_of([[1, tiny], [-1, tiny], [0, -1]])), 0)
        chance = Random(82)
        for size in range(4):
            for many in (1, 2, 3):
                self.are_edges(many, form_of([[great_number(chance) for _ in range(many)] for _ in range(size)]))

    def test_what_is_returned_may_be_passed(self):
        chance = Random(83)
        for _ in range(60):
            many, size = chance.randrange(1, 4), chance.randrange(7)
            edges = ways_edges(many, form_of(some_rows(chance, many, size, FEW)))
            self.assertIn(cone_word(any_form(chance, many, SMALL), edges), ("above", "from", "below"))
            again = ways_edges(many, ways_edges(many, edges))
            for one, other in [(edges, again), (again, edges)]:
                self.assertTrue(all([in_cone(numbers(edge), [numbers(row) for row in other]) for edge in one]))

    def test_words_on_ways(self):
        for many in (1, 2, 3):
            firm = form_of(units(many))
            self.assertEqual(cone_word(firm, ways_edges(many, ())), "above")
            self.assertEqual(cone_word(((NIL,) * many,) * many, ways_edges(many, ())), "from")
            self.assertEqual(cone_word(form_of([[-x for x in row] for row in units(many)]), ALL[many]), "below")


class Errors(FaceCase):
    def with_edges(self):
        return [cone_form, cone_word, cone_low]

    def test_form(self):
        for value in NO_FORMS:
            with self.subTest(value):
                for function in self.with_edges():
                    self.told(InvalidForm, "given", value, function, value, SLANTS)
                    self.told(InvalidForm, "given", value, function, value, ())

    def test_no_edges(self):
        for value in NO_TUPLES:
            with self.subTest(value):
                for function in self.with_edges():
                    self.told(InvalidEdges, "index", None, function, DIP, value)

    def test_the_first_that_is_no_edge(self):
        wrong = OTHER_SORTS + [0, (), (ONE,), (ONE, ONE, ONE), [ONE, ONE], (NIL, NIL), (NIL, (0, 2)), (ONE, [1, 1]),
                               {0: ONE, 1: ONE}, (ONE, 1), DIP, (NIL,) * 7]
        wrong += [(ONE, value) for value in NO_FRACTIONS]
        for value in wrong:
            with self.subTest(value):
                for function in self.with_edges():
                    self.told(InvalidEdges, "index", 0, function, DIP, (value,))
                    self.told(InvalidEdges, "index", 1, function, DIP, ((ONE, ONE), value))
                    self.told(InvalidEdges, "index", 1, function, DIP, ((ONE, ONE), value, value))
                    self.told(InvalidEdges, "index", 5, function, DIP, SLANTS * 2 + (SLANTS[0], value) + SLANTS)

    def test_the_seventh(self):
        for function in self.with_edges():
            self.told(InvalidEdges, "index", 6, function, DIP, ((ONE, ONE),) * 7)
            self.told(InvalidEdges, "index", 6, function, DIP, ((ONE, ONE),) * 6 + (None,))
            self.told(InvalidEdges, "index", 6, function, DIP, ((ONE, ONE),) * 30)
            self.told(InvalidEdges, "index", 2, function, DIP, ((ONE, ONE),) * 2 + ((NIL, NIL),) + ((ONE, ONE),) * 6)
        self.assertEqual(cone_word(DIP, ((ONE, ONE),) * 6), "below")

    def test_edges_have_as_many_numbers_as_the_form_has_rows(self):
        for many in range(1, 7):
            form = ((ONE,) * many,) * many
            for size in range(8):
                edges = ((ONE,) * many, (ONE,) * size)
                for function in self.with_edges():
                    if size == many:
                        function(form, edges)
                    else:
                        self.told(InvalidEdges, "index", 1, function, form, edges)

    def test_number(self):
        for value in NO_NUMBERS + [4, 5, 6, 10 ** 6]:
            with self.subTest(value):
                self.told(InvalidNumber, "given", value, ways_edges, value, RIGHT)
                self.told(InvalidNumber, "given", value, ways_edges, value, ())

    def test_no_rows(self):
        for value in NO_TUPLES:
            with self.subTest(value):
                self.told(InvalidRow, "index", None, ways_edges, 2, value)

    def test_the_first_that_is_no_row(self):
        wrong = OTHER_SORTS + [0, (), (ONE,), (ONE, ONE, ONE), [ONE, ONE], (ONE, [1, 1]), {0: ONE, 1: ONE}, (ONE, 1)]
        wrong += [(value, NIL) for value in NO_FRACTIONS]
        for value in wrong:
            with self.subTest(value):
                self.told(InvalidRow, "index", 0, ways_edges, 2, (value,))
                self.told(InvalidRow, "index", 1, ways_edges, 2, ((NIL, NIL), value, value))
                self.told(InvalidRow, "index", 5, ways_edges, 2, ((ONE, ONE),) * 5 + (value,) + ((ONE, ONE),) * 3)

    def test_the_seventh_row(self):
        for many in (1, 2, 3):
            self.told(InvalidRow, "index", 6, ways_edges, many, ((NIL,) * many,) * 7)
            self.told(InvalidRow, "index", 6, ways_edges, many, ((ONE,) * many,) * 6 + (None,) * 9)
            self.told(InvalidRow, "index", 0, ways_edges, many, ((ONE,) * (many + 1),))

    def test_the_first_wrong_argument_is_told(self):
        bad = [DIP]
        for function in self.with_edges():
            self.told(InvalidForm, "given", bad, function, bad, None)
            self.told(InvalidForm, "given", bad, function, edges=None, form=bad)
        self.told(InvalidNumber, "given", bad, ways_edges, bad, None)
        self.told(InvalidNumber, "given", 0, ways_edges, rows=((NIL,),), number=0)
        self.told(InvalidRow, "index", 0, ways_edges, rows=((NIL,),), number=2)

    def test_no_argument_is_changed(self):
        for value in [[[ONE, ONE], [ONE, ONE]], {0: [ONE], 1: {}}, [[], [[]]]]:
            kept = deepcopy(value)
            for function in self.with_edges():
                self.told(InvalidForm, "given", value, function, value, SLANTS)
                self.told(InvalidEdges, "index", None, function, DIP, value)
                self.told(InvalidEdges, "index", 0, function, DIP, (value,))
            self.told(InvalidNumber, "given", value, ways_edges, value, ())
            self.told(InvalidRow, "index", None, ways_edges, 2, value)
            self.told(InvalidRow, "index", 0, ways_edges, 2, (value,))
            self.assertEqual(value, kept)

    def test_equal_calls_have_equal_results(self):
        chance = Random(84)
        for form in many_forms(85, 1):
            edges = some_edges(chance, len(form), 4)
            again, same = form_of(table(form)), form_of([numbers(edge) for edge in edges])
            for function in self.with_edges():
                self.assertEqual(function(form, edges), function(again, same))
                self.assertEqual(function(form, edges), function(form, edges))
        self.assertEqual(ways_edges(2, RIGHT), ways_edges(2, form_of(table(RIGHT))))

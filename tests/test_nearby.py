from copy import deepcopy
from fractions import Fraction
from itertools import combinations
from random import Random

from everyface.cones import ways_edges
from everyface.errors import InvalidQuadratic, InvalidRoom, InvalidRow, NotInRoom
from everyface.nearby import multipliers, strict_places, way_down, word_near
from everyface.quadratics import is_bounded, least_of
from everyface.rooms import is_empty, is_in, told_places
from everyface.webs import full_lots, place_of, web_form
from tests.room_samples import (
    ALL, GAP, NO_QUADRATICS, NO_ROOMS, QUARTER, SQUARE, STRIP, TINY, bend, grid_places, is_way_of, plain,
    shares_room, slope_by_hand, some_held_rooms, some_quadratic, some_rooms,
)
from tests.samples import (
    CROSS, DIP, FIRM, FaceCase, HALF, HUMP, LESS, NIL, NO_FRACTIONS, ONE, OTHER_SORTS, TWO, any_form, form_of,
    great_number, number, numbers, pair, pairs, product_of, solutions, table, times_row, told_stand, lots_of, units,
    ways_of,
)

PLAIN = (NIL, NIL)
AT_PLACES = (word_near, way_down, multipliers)
BOX = (3, form_of(units(3) + [[-x for x in row] for row in units(3)]), (ONE,) * 6)
LINE, SPAN = (1, (), ()), (1, ((ONE,), (LESS,)), (ONE, ONE))


def tight_rows(room, place):
    """Which rows are tight, by their indexes, and these rows."""
    _, rows, limits = plain(room)
    at = [k for k, (row, limit) in enumerate(zip(rows, limits)) if times_row(row, place) == limit]
    return at, [rows[k] for k in at]


def told_near(quadratic, room, place):
    """The word of a place straight from the words of the document, by the stands as the tests work them out."""
    slope = slope_by_hand(quadratic, place)
    edges = [numbers(edge) for edge in ways_edges(room[0], form_of(tight_rows(room, place)[1]))]
    if any([times_row(slope, edge) < 0 for edge in edges]):
        return "down"
    level = [edge for edge in edges if times_row(slope, edge) == 0]
    form = form_of([[product_of(table(quadratic[0]), one, other) for other in level] for one in level])
    stands = [told_stand(form, lot) for lot in lots_of(len(level))]
    lows = [number(found[1]) for found in stands if found is not None]
    if min(lows, default=1) < 0:
        return "down"
    zeros = [numbers(found[0]) for found in stands if found is not None and found[1] == NIL]
    made = [[sum([by * edge[at] for by, edge in zip(zero, level)]) for at in range(room[0])] for zero in zeros]
    return "least" if any([any(way) for way in made]) else "strict"


def some_places(room, chance):
    """Places of a room: those that are told, and some more."""
    return [numbers(place) for place in told_places(room)] + grid_places(room, chance, 3)


class Examples(FaceCase):
    def test_the_document(self):
        self.assertEqual(
            [word_near((DIP, PLAIN), SQUARE, (ONE, ONE)), word_near((DIP, PLAIN), SQUARE, PLAIN),
             word_near((DIP, PLAIN), SQUARE, (HALF, HALF)), word_near((HUMP, PLAIN), SQUARE, (HALF, HALF)),
             way_down((HUMP, PLAIN), SQUARE, PLAIN)],
            ["strict", "down", "down", "least", None])
        self.assertEqual(
            [multipliers((DIP, PLAIN), SQUARE, (ONE, ONE)), multipliers((DIP, PLAIN), SQUARE, (HALF, HALF)),
             strict_places((DIP, PLAIN), SQUARE), strict_places((CROSS, PLAIN), SQUARE)],
            [((2, 1), (2, 1), (0, 1), (0, 1)), None, (((1, 1), (1, 1)),), ()])
        self.assertEqual(strict_places((((LESS,),), (NIL,)), (1, ((ONE,), (LESS,)), (ONE, ONE))),
                         (((-1, 1),), ((1, 1),)))
        self.told_bare(NotInRoom, word_near, (DIP, PLAIN), SQUARE, (TWO, TWO))


class NearCase(FaceCase):
    def is_near(self, quadratic, room, place, word=None):
        """Looks whether the word of a place is right, and what shows it."""
        told = word_near(quadratic, room, pairs(place))
        self.assertEqual(told, told_near(quadratic, room, place))
        if word is not None:
            self.assertEqual(told, word)
        way = way_down(quadratic, room, pairs(place))
        if told != "down":
            self.assertIsNone(way)
        else:
            self.is_row(way, room[0])
            rise = times_row(slope_by_hand(quadratic, place), numbers(way))
            self.assertTrue(is_way_of(tight_rows(room, place)[1], numbers(way)))
            self.assertTrue(rise < 0 or (rise == 0 and bend(quadratic, numbers(way)) < 0))
        self.no_way_breaks(quadratic, room, place, told)

    def no_way_breaks(self, quadratic, room, place, told):
        slope = slope_by_hand(quadratic, place)
        ways = ways_of(room[0], tight_rows(room, place)[1])
        sums = [[a + by * b for a, b in zip(one, other)] for one in ways for other in ways for by in (0, 1, 3)]
        signs = [(times_row(slope, way), bend(quadratic, way)) for way in sums[:200] if any(way)]
        if told == "strict":
            self.assertTrue(all([told > (0, 0) for told in signs]))
        if told == "least":
            self.assertTrue(all([told >= (0, 0) for told in signs]))


class Words(NearCase):
    def test_many_places(self):
        chance = Random(220)
        seen = set()
        for quadratic, room in some_held_rooms(221, 3):
            for place in some_places(room, chance):
                with self.subTest(quadratic=quadratic, room=room, place=place):
                    self.is_near(quadratic, room, place)
                    size = len(ways_edges(room[0], form_of(tight_rows(room, place)[1])))
                    seen.add((room[0], word_near(quadratic, room, pairs(place)), size > 0))
        self.assertIn((1, "strict", False), seen)
        for many in (1, 2, 3):
            for word in ("strict", "least", "down"):
                self.assertIn((many, word, True), seen)

    def test_the_least_place_of_all_is_least_near_it(self):
        for quadratic, room in some_held_rooms(222, 3):
            if is_bounded(quadratic, room):
                place = least_of(quadratic, room)[1]
                self.assertIn(word_near(quadratic, room, place), ("strict", "least"))
                self.assertIsNone(way_down(quadratic, room, place))
                self.assertIsNotNone(multipliers(quadratic, room, place))

    def test_at_corners_on_edges_and_inside(self):
        upright, away = form_of(units(2)), form_of([[-1, 0], [0, -1]])
        target = (upright, pairs([-1, Fraction(-1, 2)]))
        for place, word in [((Fraction(1, 2), Fraction(1, 4)), "strict"), ((0, 0), "down"), ((1, 0), "down"),
                            ((Fraction(1, 2), 0), "down"), ((Fraction(1, 2), Fraction(1, 4) + TINY), "down")]:
            self.is_near(target, SQUARE, list(place), word)
        for place in [[0, 0], [0, 1], [1, 0], [1, 1]]:
            # At (0, 0) the slope is noughts and each way but noughts goes down.
            self.is_near((away, PLAIN), SQUARE, place, "down" if 0 in place else "strict")
        self.is_near((away, (ONE, ONE)), SQUARE, [0, 0], "strict")
        self.is_near((away, (ONE, ONE)), SQUARE, [Fraction(1, 2), 0], "down")
        flat = form_of([[0, 0], [0, 0]])
        self.is_near((flat, (NIL, ONE)), SQUARE, [Fraction(1, 2), 0], "least")
        self.is_near((flat, (NIL, ONE)), SQUARE, [0, 0], "least")
        self.is_near((flat, (ONE, ONE)), SQUARE, [0, 0], "strict")
        self.is_near((flat, PLAIN), SQUARE, [0, Fraction(1, 3)], "least")
        self.is_near((form_of([[1, 0], [0, 0]]), (NIL, ONE)), SQUARE, [0, 0], "strict")
        self.is_near((form_of([[-1, 0], [0, 0]]), (NIL, ONE)), SQUARE, [0, 0], "down")
        self.is_near((form_of([[-1, 0], [0, 0]]), (pair(TINY), ONE)), SQUARE, [0, 0], "strict")

    def test_only_ways_along_which_the_slope_is_nought_are_asked_for(self):
        # Along the sides the form may bend down where the slope goes up.
        self.is_near((DIP, (ONE, ONE)), SQUARE, [0, 0], "strict")
        self.is_near((CROSS, PLAIN), SQUARE, [0, 0], "least")
        self.is_near((form_of([[1, -1], [-1, 0]]), (NIL, ONE)), SQUARE, [0, 0], "strict")
        self.is_near((form_of([[0, -1], [-1, 0]]), (NIL, ONE)), SQUARE, [0, 0], "least")

    def test_no_other_place_near(self):
        for many in (1, 2, 3):
            here = [Fraction(1, 3), Fraction(-2), Fraction(7, 5)][:many]
            sides = form_of(units(many) + [[-x for x in row] for row in units(many)])
            room = (many, sides, pairs(here + [-x for x in here]))
            for chance in (Random(k) for k in range(6)):
                self.is_near(some_quadratic(chance, many), room, here, "strict")

    def test_rows_of_noughts_that_are_tight(self):
        room = (2, ((NIL, NIL), *SQUARE[1]), (NIL, *SQUARE[2]))
        for place in [[0, 0], [1, 1], [Fraction(1, 2), Fraction(1, 2)], [1, Fraction(1, 3)]]:
            for form in (DIP, HUMP, FIRM, CROSS):
                self.is_near((form, PLAIN), room, place, word_near((form, PLAIN), SQUARE, pairs(place)))

    def test_rooms_without_rows(self):
        self.is_near((FIRM, PLAIN), ALL[2], [0, 0], "strict")
        self.is_near((HUMP, PLAIN), ALL[2], [2, 2], "least")
        self.is_near((DIP, PLAIN), ALL[2], [0, 0], "down")
        self.is_near((FIRM, PLAIN), ALL[2], [0, TINY], "down")
        self.is_near((form_of(units(3)), (NIL,) * 3), ALL[3], [0, 0, 0], "strict")

    def test_great_numbers(self):
        chance = Random(223)
        for many in (1, 2, 3):
            quadratic = (any_form(chance, many, [great_number(chance) for _ in range(6)]),
                         pairs([great_number(chance) for _ in range(many)]))
            here = [great_number(chance) for _ in range(many)]
            sides = [[great_number(chance) for _ in range(many)] for _ in range(2)]
            room = (many, form_of(sides), pairs([times_row(side, here) for side in sides]))
            self.is_near(quadratic, room, here)


class Multipliers(FaceCase):
    def are_right(self, quadratic, room, place):
        told = multipliers(quadratic, room, pairs(place))
        slope = slope_by_hand(quadratic, place)
        at, tight = tight_rows(room, place)
        falls = any([times_row(slope, way) < 0 for way in ways_of(room[0], tight)])
        if falls:
            self.assertIsNone(told)
            return False
        self.is_row(told, len(room[1]))
        by = numbers(told)
        self.assertGreaterEqual(min(by, default=0), 0)
        self.assertTrue(all([by[k] == 0 for k in range(len(by)) if k not in at]))
        rows = plain(room)[1]
        sums = [sum([b * row[k] for b, row in zip(by, rows)]) + slope[k] for k in range(room[0])]
        self.assertEqual(sums, [0] * room[0])
        return True

    def test_there_are_some_just_where_no_way_falls_at_once(self):
        chance = Random(224)
        seen = set()
        for quadratic, room in some_held_rooms(225, 3):
            for place in some_places(room, chance):
                with self.subTest(quadratic=quadratic, room=room, place=place):
                    told = self.are_right(quadratic, room, place)
                    seen.add((room[0], told, len(tight_rows(room, place)[0]) > room[0]))
        self.assertEqual(len(seen), 12)

    def test_tight_rows_that_depend_on_one_another(self):
        rows = [[0, 0], [1, 0], [-2, 0], [2, 0], [0, 1], [1, 1]]
        for slopes in [(-1, 0), (1, 0), (-1, -1), (0, -1), (0, 0), (0, 1), (5, -3), (-3, -7)]:
            room = (2, form_of(rows), (NIL,) * 6)
            for form in (FIRM, DIP):
                self.are_right((form, pairs(slopes)), room, [0, 0])
            self.assertEqual(multipliers((DIP, pairs(slopes)), room, PLAIN) is None, slopes == (0, 1))

    def test_whatever_the_word_is(self):
        self.assertEqual(multipliers((DIP, PLAIN), SQUARE, PLAIN), (NIL,) * 4)
        self.assertEqual(word_near((DIP, PLAIN), SQUARE, PLAIN), "down")
        self.assertEqual(multipliers((((LESS,),), (NIL,)), LINE, (NIL,)), ())
        self.assertEqual(word_near((((LESS,),), (NIL,)), LINE, (NIL,)), "down")

    def test_rooms_without_rows(self):
        self.assertEqual(multipliers((FIRM, PLAIN), ALL[2], PLAIN), ())
        self.assertIsNone(multipliers((FIRM, PLAIN), ALL[2], (NIL, ONE)))
        self.assertIsNone(multipliers((form_of([[0] * 3] * 3), (NIL, NIL, pair(TINY))), ALL[3], (NIL,) * 3))

    def test_rows_that_are_not_tight_are_not_asked(self):
        quadratic = (((NIL,),), (LESS,))
        self.assertEqual(multipliers(quadratic, SPAN, (ONE,)), (ONE, NIL))
        self.assertIsNone(multipliers(quadratic, SPAN, (pair(1 - TINY),)))
        self.assertIsNone(multipliers(quadratic, SPAN, (LESS,)))


class StrictPlaces(FaceCase):
    def told_by_lots(self, quadratic, room):
        """All strict places among the only solutions of Lagrange's equations for each lot of rows."""
        many, rows, limits = plain(room)
        found = []
        for size in range(many + 1):
            for lot in combinations(range(len(rows)), size):
                lines = [[2 * value for value in line] + [rows[k][at] for k in lot]
                         for at, line in enumerate(table(quadratic[0]))] + [rows[k] + [0] * size for k in lot]
                told = solutions(lines, [-value for value in numbers(quadratic[1])] + [limits[k] for k in lot])
                if told is not None and told[1] == 0:
                    place = told[0][:many]
                    if is_in(room, pairs(place)) and told_near(quadratic, room, place) == "strict":
                        found.append(pairs(place))
        return tuple(sorted(set(found)))

    def test_many_rooms(self):
        chance = Random(226)
        counts = set()
        for room in some_rooms(227, 3):
            quadratic = some_quadratic(chance, room[0])
            with self.subTest(quadratic=quadratic, room=room):
                told = strict_places(quadratic, room)
                self.assertEqual(told, self.told_by_lots(quadratic, room))
                for place in told:
                    self.is_row(place, room[0])
                if is_empty(room):
                    self.assertEqual(told, ())
                counts.add((room[0], min(len(told), 2)))
        self.assertGreaterEqual(len(counts), 8)

    def test_no_other_place_is_strict(self):
        chance = Random(228)
        for quadratic, room in some_held_rooms(229, 2):
            told = strict_places(quadratic, room)
            for place in some_places(room, chance):
                if pairs(place) not in told:
                    self.assertNotEqual(word_near(quadratic, room, pairs(place)), "strict")

    def test_all_corners_in_the_order_of_tuples(self):
        away = form_of([[-value for value in row] for row in units(3)])
        told = strict_places((away, (NIL,) * 3), BOX)
        corners = [(x, y, z) for x in (LESS, ONE) for y in (LESS, ONE) for z in (LESS, ONE)]
        self.assertEqual(told, tuple(sorted(corners)))
        # As tuples (1, 2) comes before (1, 3), as numbers a third comes before a half.
        room = (1, ((ONE,), (LESS,)), (HALF, (-1, 3)))
        self.assertEqual(strict_places((((LESS,),), ((5, 6),)), room), (((1, 2),), ((1, 3),)))
        self.assertEqual(strict_places((((LESS,),), ((2, 1),)), room), (((1, 3),),))

    def test_one_inside_none_and_empty_rooms(self):
        self.assertEqual(strict_places((FIRM, (LESS, LESS)), ALL[2]), (((1, 6), (1, 6)),))
        self.assertEqual(strict_places((FIRM, (LESS, LESS)), SQUARE), (((1, 6), (1, 6)),))
        self.assertEqual(strict_places((HUMP, PLAIN), STRIP), ())
        self.assertEqual(strict_places((HUMP, PLAIN), QUARTER), ())
        self.assertEqual(strict_places((HUMP, (ONE, ONE)), QUARTER), (PLAIN,))
        self.assertEqual(strict_places((DIP, PLAIN), ALL[2]), ())
        self.assertEqual(strict_places((((ONE,),), (ONE,)), GAP), ())
        self.assertEqual(strict_places((((NIL,),), (NIL,)), LINE), ())

    def test_at_a_place_and_at_an_edge_and_inside_at_once(self):
        # x x bends down and y y up: strict at both ends of x, in the middle of y.
        quadratic = (form_of([[-1, 0], [0, 1]]), pairs([1, -1]))
        self.assertEqual(strict_places(quadratic, SQUARE), ((NIL, HALF), (ONE, HALF)))
        self.assertEqual(strict_places((quadratic[0], pairs([3, -1])), SQUARE), ((NIL, HALF),))

    def test_places_of_full_lots_of_webs_are_the_strict_ones(self):
        chance = Random(230)
        for many in (1, 2, 3):
            for _ in range(8):
                ties = tuple([tie for tie in combinations(range(many), 2) if chance.randrange(2)])
                weights = [Fraction(chance.randrange(1, 5), chance.randrange(1, 4)) for _ in range(many)]
                web = (many, ties, pairs(weights))
                told = strict_places((web_form(web), (NIL,) * many), shares_room(many))
                self.assertEqual(told, tuple(sorted([place_of(web, lot) for lot in full_lots(web)])))


class Errors(FaceCase):
    def test_quadratic(self):
        for value in NO_QUADRATICS:
            with self.subTest(value):
                for function in AT_PLACES:
                    self.told(InvalidQuadratic, "given", value, function, value, SQUARE, PLAIN)
                    self.told(InvalidQuadratic, "given", value, function, place=None, room=None, quadratic=value)
                self.told(InvalidQuadratic, "given", value, strict_places, value, SQUARE)
                self.told(InvalidQuadratic, "given", value, strict_places, room=None, quadratic=value)

    def test_room(self):
        for value in NO_ROOMS:
            with self.subTest(value):
                for function in AT_PLACES:
                    self.told(InvalidRoom, "given", value, function, (CROSS, PLAIN), value, PLAIN)
                    self.told(InvalidRoom, "given", value, function, (CROSS, PLAIN), value, None)
                self.told(InvalidRoom, "given", value, strict_places, (CROSS, PLAIN), value)

    def test_room_of_another_number_of_unknowns(self):
        for many in (1, 2, 3):
            quadratic = (form_of(units(many)), (NIL,) * many)
            for other in (1, 2, 3):
                if other != many:
                    room = ALL[other]
                    for function in AT_PLACES:
                        self.told(InvalidRoom, "given", room, function, quadratic, room, (NIL,) * other)
                        self.told(InvalidRoom, "given", room, function, quadratic, room, (NIL,) * many)
                    self.told(InvalidRoom, "given", room, strict_places, quadratic, room)

    def test_no_place(self):
        for value in OTHER_SORTS + [0, (), (ONE,), (ONE, ONE, ONE), [ONE, ONE], {0: ONE, 1: ONE}, "ab", (NIL,) * 7]:
            for function in AT_PLACES:
                with self.subTest(value):
                    self.told(InvalidRow, "index", None, function, (CROSS, PLAIN), SQUARE, value)
                    self.told(InvalidRow, "index", None, function, (CROSS, PLAIN), ALL[2], place=value)

    def test_the_first_that_is_no_fraction(self):
        quadratic = (form_of(units(3)), (NIL,) * 3)
        for value in NO_FRACTIONS:
            for function in AT_PLACES:
                with self.subTest(value):
                    for at in range(3):
                        place = (TWO,) * at + (value,) * (3 - at)
                        self.told(InvalidRow, "index", at, function, quadratic, BOX, place)

    def test_places_that_are_not_in_the_room(self):
        for function in AT_PLACES:
            for place in [(TWO, TWO), (NIL, pair(-TINY)), (pair(1 + TINY), ONE), ((-9, 1), HALF)]:
                self.told_bare(NotInRoom, function, (DIP, PLAIN), SQUARE, place)
                self.told_bare(NotInRoom, function, place=place, room=SQUARE, quadratic=(DIP, PLAIN))
            # No place is in an empty room.
            self.told_bare(NotInRoom, function, (((ONE,),), (NIL,)), GAP, (NIL,))
            self.told_bare(NotInRoom, function, (CROSS, PLAIN), (2, (PLAIN,), (LESS,)), PLAIN)

    def test_the_first_wrong_argument_is_told(self):
        bad = [CROSS]
        for function in AT_PLACES:
            self.told(InvalidQuadratic, "given", bad, function, bad, None, None)
            self.told(InvalidRoom, "given", None, function, (CROSS, PLAIN), None, (TWO, TWO))
            self.told(InvalidRow, "index", 1, function, (CROSS, PLAIN), SQUARE, (TWO, (2, 2)))
            self.told(InvalidRow, "index", None, function, (CROSS, PLAIN), SQUARE, (TWO,))
        self.told(InvalidQuadratic, "given", bad, strict_places, bad, None)

    def test_no_argument_is_changed(self):
        for value in [[CROSS, [ONE, ONE]], {0: CROSS}, [[], [[]]]]:
            kept = deepcopy(value)
            for function in AT_PLACES:
                self.told(InvalidQuadratic, "given", value, function, value, SQUARE, PLAIN)
                self.told(InvalidRoom, "given", value, function, (CROSS, PLAIN), value, PLAIN)
                self.told(InvalidRow, "index", None, function, (CROSS, PLAIN), SQUARE, value)
                self.told(InvalidRow, "index", 1, function, (CROSS, PLAIN), SQUARE, (ONE, value))
            self.assertEqual(value, kept)

    def test_equal_calls_have_equal_results_by_name_too(self):
        for quadratic, room in some_held_rooms(231, 1):
            again = (form_of(table(quadratic[0])), pairs(numbers(quadratic[1])))
            place = told_places(room)[0]
            for function in AT_PLACES:
                told = function(quadratic, room, place)
                self.assertEqual(function(place=pairs(numbers(place)), room=room, quadratic=again), told)
            self.assertEqual(strict_places(room=room, quadratic=again), strict_places(quadratic, room))
            self.assertIs(type(strict_places(quadratic, room)), tuple)

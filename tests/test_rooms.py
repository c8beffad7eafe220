from copy import deepcopy
from fractions import Fraction
from random import Random

from everyface.cones import ways_edges
from everyface.errors import InvalidRoom, InvalidRow
from everyface.rooms import barring, corners_of_room, is_empty, is_in, is_room, room_edges, told_places
from tests.room_samples import (
    ALL, FEW, GAP, NO_ROOMS, QUARTER, RIGHT, SQUARE, STRIP, TINY, plain, some_rooms,
)
from tests.samples import (
    FaceCase, HALF, LESS, NIL, NO_FRACTIONS, NO_NUMBERS, ONE, OTHER_SORTS, TWO, form_of, great_number, in_cone, number,
    numbers, pairs, places_in, solutions, times_row, units, ways_of,
)

OF_ONE_ROOM = (is_empty, barring, corners_of_room, told_places, room_edges)


class Examples(FaceCase):
    def test_the_document(self):
        self.assertEqual(
            [is_room(SQUARE), is_room((2, RIGHT, (NIL,))), is_in(SQUARE, (HALF, TWO)), is_empty(STRIP), is_empty(GAP),
             barring(SQUARE), room_edges(SQUARE)],
            [True, False, False, False, True, None, ()])
        self.assertEqual(
            [corners_of_room(SQUARE), corners_of_room(QUARTER), corners_of_room(STRIP), told_places(GAP)],
            [(((0, 1), (0, 1)), ((0, 1), (1, 1)), ((1, 1), (0, 1)), ((1, 1), (1, 1))), (((0, 1), (0, 1)),), (), ()])
        found = barring(GAP)
        self.assertEqual(
            [len(found), found[0] == found[1], is_empty((1, ((NIL,),), (LESS,))), is_empty((3, (), ()))],
            [2, True, True, False])


class IsRoom(FaceCase):
    def test_rooms(self):
        for room in [SQUARE, QUARTER, STRIP, GAP, *ALL.values()] + some_rooms(90, 2):
            with self.subTest(room):
                self.assertIs(is_room(room), True)

    def test_sizes(self):
        for many in range(6):
            for size in range(9):
                told = is_room((many, ((NIL,) * many,) * size, (NIL,) * size))
                self.assertIs(told, 1 <= many <= 3 and size <= 6)

    def test_other_values(self):
        for value in NO_ROOMS:
            with self.subTest(value):
                self.assertIs(is_room(value), False)

    def test_other_values_at_each_place(self):
        for value in OTHER_SORTS:
            for room in [(value, (), ()), (1, value, (ONE,)), (1, ((ONE,),), value), (1, (value,), (ONE,))]:
                if value != ():
                    with self.subTest(room):
                        self.assertIs(is_room(room), False)
        for value in NO_FRACTIONS:
            self.assertIs(is_room((1, ((value,),), (ONE,))), False)
            self.assertIs(is_room((1, ((ONE,),), (value,))), False)
            self.assertIs(is_room((2, ((ONE, ONE), (ONE, value)), (ONE, ONE))), False)
        for value in NO_NUMBERS + [4, 7]:
            self.assertIs(is_room((value, (), ())), False)

    def test_great_numbers(self):
        great = (10 ** 399 + 1, 10 ** 399)
        self.assertIs(is_room((1, ((great,),), (great,))), True)
        self.assertIs(is_room((1, (((10 ** 399, 10 ** 398),),), (great,))), False)


class IsIn(FaceCase):
    def test_just_at_limits_and_just_beyond(self):
        for x, y, told in [
            (0, 0, True), (1, 1, True), (Fraction(1, 2), Fraction(1, 3), True), (1, 0, True), (1 + TINY, 0, False),
            (1 - TINY, TINY, True), (0, -TINY, False), (0, 1 + TINY, False), (-TINY, 0, False), (9, 9, False),
        ]:
            with self.subTest((x, y)):
                self.assertIs(is_in(SQUARE, pairs([x, y])), told)
        slanted = (2, form_of([["1/3", "1/7"]]), ((1, 21),))
        for x, y, told in [(0, "1/3", True), ("1/7", 0, True), (1, -2, True), (1, Fraction(-2) + TINY, False)]:
            self.assertIs(is_in(slanted, pairs([x, y])), told)

    def test_many_rooms(self):
        chance = Random(91)
        seen = set()
        for room in some_rooms(92, 4):
            many, rows, limits = plain(room)
            for _ in range(4):
                place = [Fraction(chance.choice(FEW)) for _ in range(many)]
                told = all([times_row(row, place) <= limit for row, limit in zip(rows, limits)])
                self.assertIs(is_in(room, pairs(place)), told)
                seen.add(told)
        self.assertEqual(len(seen), 2)

    def test_rooms_without_rows_and_with_noughts(self):
        for many in (1, 2, 3):
            self.assertIs(is_in(ALL[many], ((-10 ** 399, 7),) * many), True)
            self.assertIs(is_in((many, ((NIL,) * many,), (NIL,)), (ONE,) * many), True)
            self.assertIs(is_in((many, ((NIL,) * many,), (ONE,)), (ONE,) * many), True)
            self.assertIs(is_in((many, ((NIL,) * many,), ((-1, 10 ** 399),)), (ONE,) * many), False)


class Empty(FaceCase):
    def is_barred(self, room, row):
        """Looks whether a row bars a room."""
        many, rows, limits = plain(room)
        self.is_row(row, len(rows))
        told = numbers(row)
        self.assertGreaterEqual(min(told), 0)
        self.assertEqual([times_row(told, [line[at] for line in rows]) for at in range(many)], [0] * many)
        self.assertLess(times_row(told, limits), 0)

    def test_just_one_of_both_is_told(self):
        seen = set()
        for room in some_rooms(93, 12):
            with self.subTest(room):
                empty = not places_in(*plain(room))
                self.assertIs(is_empty(room), empty)
                self.assertEqual(told_places(room) == (), empty)
                if empty:
                    self.is_barred(room, barring(room))
                else:
                    self.assertIsNone(barring(room))
                seen.add((room[0], empty))
        self.assertEqual(len(seen), 6)

    def test_limits_from_nought_on(self):
        for room in some_rooms(94, 4):
            if min(numbers(room[2]) + [0]) >= 0:
                self.assertIs(is_empty(room), False)
                self.assertIs(is_in(room, (NIL,) * room[0]), True)
                self.assertIsNone(barring(room))

    def test_a_little_makes_a_room_empty(self):
        for many in (1, 2, 3):
            sides = form_of([[1] * many] + [[-x for x in unit] for unit in units(many)])
            for limit, empty in [(TINY, False), (0, False), (-TINY, True)]:
                room = (many, sides, pairs([limit] + [0] * many))
                self.assertIs(is_empty(room), empty)
                if empty:
                    self.is_barred(room, barring(room))
                    self.assertEqual(len(set(barring(room))), 1)

    def test_all_sides_are_needed(self):
        sides = [[1, 1, 1], [-1, 0, 0], [0, -1, 0], [0, 0, -1], [0, 0, 0], [5, 5, 5]]
        room = (3, form_of(sides), pairs([-1, 0, 0, 0, 0, 0]))
        self.assertIs(is_empty(room), True)
        self.is_barred(room, barring(room))
        later = (3, form_of(sides[4:] + sides[:4]), pairs([0, 3, -1, 0, 0, 0]))
        self.is_barred(later, barring(later))
        self.assertEqual(barring(later)[0], NIL)

    def test_noughts_with_limits_below_nought(self):
        for many in (1, 2, 3):
            room = (many, ((NIL,) * many, (ONE,) * many), ((-1, 10 ** 399), ONE))
            self.assertIs(is_empty(room), True)
            self.is_barred(room, barring(room))
            self.assertEqual(barring(room)[1], NIL)
            self.assertEqual(told_places(room), ())
            self.assertEqual(corners_of_room(room), ())

    def test_great_numbers(self):
        chance = Random(95)
        for many in (1, 2, 3):
            rows = [[great_number(chance) for _ in range(many)] for _ in range(2)]
            rows += [[-sum(column) for column in zip(*rows)]]
            limits = [great_number(chance), great_number(chance)]
            room = (many, form_of(rows), pairs(limits + [-sum(limits) - Fraction(1, 10 ** 399)]))
            self.assertIs(is_empty(room), True)
            self.is_barred(room, barring(room))
            held = (many, form_of(rows), pairs(limits + [-sum(limits)]))
            # A single unknown can not meet two limits at once, two and more can.
            self.assertIs(is_empty(held), many == 1)
            self.assertTrue(all([is_in(held, place) for place in told_places(held)]))


class Corners(FaceCase):
    def told_by_words(self, room):
        """The corners straight from the words of the document, among all places of which one side each is tight."""
        many, rows, limits = plain(room)
        found = []
        for place in places_in(many, rows, limits):
            tight = [(row, limit) for row, limit in zip(rows, limits) if times_row(row, place) == limit]
            if tight and solutions([row for row, _ in tight], [limit for _, limit in tight])[1] == 0:
                found.append(pairs(place))
        return tuple(sorted(found))

    def test_many_rooms(self):
        seen = set()
        for room in some_rooms(96, 8):
            with self.subTest(room):
                told = corners_of_room(room)
                self.assertEqual(told, self.told_by_words(room))
                self.assertEqual(list(told), sorted(set(told)))
                for place in told:
                    self.is_row(place, room[0])
                seen.add((room[0], len(told)))
        self.assertGreaterEqual(len(seen), 10)

    def test_the_order_is_that_of_tuples_not_of_numbers(self):
        self.assertEqual(corners_of_room((1, ((ONE,), (LESS,)), (HALF, (-1, 3)))), (((1, 2),), ((1, 3),)))
        self.assertEqual(corners_of_room((1, ((ONE,), (LESS,)), ((2, 3), HALF))), (((-1, 2),), ((2, 3),)))
        self.assertEqual(corners_of_room((1, ((ONE,), (LESS,)), ((2, 7), (-1, 9)))), (((1, 9),), ((2, 7),)))
        self.assertEqual(corners_of_room((1, ((ONE,), (LESS,)), (ONE, (-7, 8)))), (((1, 1),), ((7, 8),)))

    def test_boxes_and_others(self):
        box = (3, form_of(units(3) + [[-x for x in row] for row in units(3)]), (ONE,) * 6)
        self.assertEqual(len(corners_of_room(box)), 8)
        self.assertEqual(corners_of_room(box)[0], (LESS, LESS, LESS))
        point = (3, form_of([[1, 1, 1], [-1, 0, 0], [0, -1, 0], [0, 0, -1]]), (NIL,) * 4)
        self.assertEqual(corners_of_room(point), ((NIL, NIL, NIL),))
        around = [[1, 0, -1], [0, 1, -1], [-1, 0, -1], [0, -1, -1], [0, 0, 1], [0, 0, -1]]
        tent = (3, form_of(around), pairs([0, 0, 0, 0, 1, 0]))
        self.assertEqual(len(corners_of_room(tent)), 5)
        tip = (3, form_of(around), pairs([0, 0, 0, 0, 0, 0]))
        self.assertEqual(corners_of_room(tip), ((NIL, NIL, NIL),))
        self.assertEqual(corners_of_room((3, form_of(around), pairs([0, 0, 0, 0, -1, 0]))), ())

    def test_rooms_with_lines_have_none(self):
        walls = (3, ((ONE, NIL, NIL), (NIL, ONE, NIL)), (ONE, ONE))
        for room in [STRIP, *ALL.values(), walls, (2, ((ONE, ONE),), (NIL,))]:
            self.assertEqual(corners_of_room(room), ())
            self.assertIs(is_empty(room), False)

    def test_single_places(self):
        for many in (1, 2, 3):
            here = [Fraction(1, 3), Fraction(-2), Fraction(7, 5)][:many]
            sides = form_of(units(many) + [[-x for x in row] for row in units(many)])
            room = (many, sides, pairs(here + [-x for x in here]))
            self.assertEqual(corners_of_room(room), (pairs(here),))
            self.assertEqual(told_places(room), (pairs(here),))
            self.assertEqual(room_edges(room), ())
            self.assertIsNone(barring(room))

    def test_each_corner_once_though_more_sides_meet_there(self):
        room = (2, form_of([[1, 0], [0, 1], [1, 1], [2, 1], [0, 0], [-1, -1]]), pairs([0, 0, 0, 0, 0, 1]))
        self.assertEqual(corners_of_room(room), tuple(sorted([(LESS, NIL), (NIL, LESS), (NIL, NIL)])))


class Places(FaceCase):
    def tell_all(self, room):
        """Looks whether what is told makes a room of just these places: all are in it, and each is a mix and a way."""
        many, rows, limits = plain(room)
        places = told_places(room)
        self.assertIs(type(places), tuple)
        for place in places:
            self.is_row(place, many)
            self.assertIs(is_in(room, place), True)
        ways = [numbers(edge) + [0] for edge in room_edges(room)]
        lifted = [numbers(place) + [1] for place in places] + ways
        for place in places_in(many, rows, limits):
            self.assertTrue(in_cone(place + [1], lifted), (place, places))
        for way in ways_of(many, rows):
            self.assertTrue(in_cone(way + [0], ways))

    def test_many_rooms(self):
        for room in some_rooms(97, 4):
            with self.subTest(room):
                self.tell_all(room)

    def test_without_lines_no_fewer_do(self):
        for room in some_rooms(98, 3):
            held = told_places(room)
            if corners_of_room(room):
                self.assertLessEqual(set(corners_of_room(room)), set(held))

    def test_rooms_with_lines(self):
        rooms = [
            STRIP, *ALL.values(), (3, ((ONE, NIL, NIL), (NIL, ONE, NIL)), (ONE, HALF)), (2, ((ONE, ONE),), ((-7, 2),)),
            (3, ((ONE, TWO, LESS), ((-1, 1), (-2, 1), ONE)), (ONE, (-1, 3))), (3, ((NIL, NIL, NIL),), (NIL,)),
            (2, ((NIL, NIL), (ONE, LESS)), (ONE, LESS)),
        ]
        for room in rooms:
            with self.subTest(room):
                self.tell_all(room)
                self.assertGreaterEqual(len(told_places(room)), 1)

    def test_great_numbers(self):
        chance = Random(99)
        for many in (1, 2, 3):
            sides = [[abs(great_number(chance)) for _ in range(many)]] + [[-x for x in unit] for unit in units(many)]
            room = (many, form_of(sides), pairs([abs(great_number(chance))] + [0] * many))
            self.tell_all(room)
            self.assertEqual(len(corners_of_room(room)), many + 1)
            self.assertTrue(all([is_in(room, place) for place in corners_of_room(room)]))

    def test_edges_are_those_of_the_ways(self):
        for room in some_rooms(100, 2) + [SQUARE, QUARTER, STRIP, GAP]:
            many, rows, _ = plain(room)
            edges = [numbers(edge) for edge in room_edges(room)]
            self.assertLessEqual(len(edges), 6)
            for edge in edges:
                self.assertTrue(any(edge))
                self.assertTrue(all([times_row(row, edge) <= 0 for row in rows]))
            self.assertTrue(all([in_cone(way, edges) for way in ways_of(many, rows)]))
            self.assertEqual(len(ways_edges(many, room[1])), len(edges))

    def test_edges_of_empty_rooms(self):
        self.assertEqual(room_edges(GAP), ())
        void = (2, ((ONE, NIL), (LESS, NIL), (NIL, ONE)), (LESS, NIL, NIL))
        self.assertIs(is_empty(void), True)
        self.assertEqual(len(room_edges(void)), 1)
        self.assertEqual([number(value) > 0 for value in room_edges(void)[0]], [False, False])
        self.assertEqual(len(room_edges((3, ((NIL, NIL, NIL),), (LESS,)))), 6)


class Errors(FaceCase):
    def test_room(self):
        for value in NO_ROOMS:
            with self.subTest(value):
                for function in OF_ONE_ROOM:
                    self.told(InvalidRoom, "given", value, function, value)
                    self.told(InvalidRoom, "given", value, function, room=value)
                self.told(InvalidRoom, "given", value, is_in, value, (ONE, ONE))

    def test_no_place(self):
        for value in OTHER_SORTS + [0, (), (ONE,), (ONE, ONE, ONE), [ONE, ONE], {0: ONE, 1: ONE}, "ab", (NIL,) * 7]:
            with self.subTest(value):
                self.told(InvalidRow, "index", None, is_in, SQUARE, value)
                self.told(InvalidRow, "index", None, is_in, ALL[2], value)
        for many in (1, 2, 3):
            for size in range(6):
                if size != many:
                    self.told(InvalidRow, "index", None, is_in, ALL[many], (ONE,) * size)

    def test_the_first_that_is_no_fraction(self):
        for value in NO_FRACTIONS:
            with self.subTest(value):
                for at in range(3):
                    self.told(InvalidRow, "index", at, is_in, ALL[3], (LESS,) * at + (value,) * (3 - at))
                self.told(InvalidRow, "index", 0, is_in, GAP, (value,))

    def test_the_first_wrong_argument_is_told(self):
        bad = [SQUARE]
        self.told(InvalidRoom, "given", bad, is_in, bad, None)
        self.told(InvalidRoom, "given", bad, is_in, place=None, room=bad)
        self.told(InvalidRow, "index", None, is_in, place=(ONE,), room=SQUARE)
        self.told(InvalidRow, "index", 1, is_in, SQUARE, (ONE, 1))

    def test_no_argument_is_changed(self):
        for value in [[2, [[ONE, ONE]], [ONE]], {0: 2, 1: ()}, [[], [[]]]]:
            kept = deepcopy(value)
            self.assertIs(is_room(value), False)
            for function in OF_ONE_ROOM:
                self.told(InvalidRoom, "given", value, function, value)
            self.told(InvalidRow, "index", None, is_in, SQUARE, value)
            self.told(InvalidRow, "index", 1, is_in, SQUARE, (ONE, value))
            self.assertEqual(value, kept)

    def test_equal_calls_have_equal_results(self):
        for room in some_rooms(101, 1):
            again = (room[0], form_of([numbers(row) for row in room[1]]), pairs(numbers(room[2])))
            for function in OF_ONE_ROOM:
                self.assertEqual(function(room), function(again))
                self.assertEqual(function(room), function(room))

    def test_by_name(self):
        self.assertIs(is_room(value=SQUARE), True)
        self.assertIs(is_in(place=(HALF, TWO), room=SQUARE), False)
        for function in OF_ONE_ROOM:
            self.assertEqual(function(room=STRIP), function(STRIP))

    def test_answers_are_of_plain_kinds(self):
        for room in some_rooms(102, 1):
            self.assertIs(type(is_empty(room)), bool)
            self.assertIs(type(is_in(room, (ONE,) * room[0])), bool)
            for function in (corners_of_room, told_places, room_edges):
                self.assertIs(type(function(room)), tuple)

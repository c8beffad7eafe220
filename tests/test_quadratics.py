from copy import deepcopy
from fractions import Fraction
from random import Random

from everyface.cones import cone_word, ways_edges
from everyface.errors import EmptyRoom, Endless, InvalidQuadratic, InvalidRoom, InvalidRow
from everyface.quadratics import falling, greatest_of, is_bounded, is_quadratic, least_of, slope_at, worth_at
from everyface.rooms import is_empty, is_in, told_places
from everyface.shares import least_worth
from tests.room_samples import (
    ALL, GAP, NO_QUADRATICS, NO_ROOMS, QUARTER, SQUARE, STRIP, TINY, falls_for_ever, grid_places, is_least_over,
    shares_room, slope_by_hand, some_held_rooms, some_quadratic, some_rooms, word_over, worth_by_hand,
)
from tests.samples import (
    ALIKE, CROSS, DIP, FIRM, FaceCase, HALF, HUMP, LESS, NIL, NO_FRACTIONS, ONE, OTHER_SORTS, SMALL, TWO, any_form,
    form_of, great_number, number, numbers, pair, pairs, table, times_row, units,
)

PLAIN, RISE, FALL = (NIL, NIL), (ONE, NIL), (LESS, NIL)
OVER_ROOMS = (is_bounded, falling, least_of, greatest_of)
LINE, HALF_LINE = (1, (), ()), (1, ((LESS,),), (NIL,))
SPAN = (1, ((ONE,), (LESS,)), (ONE, NIL))


def opposite_of(quadratic):
    form, slopes = quadratic
    return (form_of([[-value for value in row] for row in table(form)]), pairs([-value for value in numbers(slopes)]))


class Examples(FaceCase):
    def test_the_document(self):
        self.assertEqual(
            [worth_at((FIRM, FALL), (ONE, TWO)), slope_at((FIRM, FALL), (ONE, TWO)), least_of((DIP, PLAIN), SQUARE),
             greatest_of((DIP, PLAIN), SQUARE)[0], is_quadratic((DIP, (ONE,)))],
            [(13, 1), ((7, 1), (10, 1)), ((-2, 1), ((1, 1), (1, 1))), (1, 1), False])
        self.assertEqual(
            [is_bounded((CROSS, PLAIN), STRIP), is_bounded((HUMP, PLAIN), STRIP), is_bounded((HUMP, RISE), QUARTER),
             is_bounded((HUMP, FALL), QUARTER), falling((HUMP, RISE), QUARTER), least_of((HUMP, RISE), QUARTER),
             least_of((HUMP, PLAIN), STRIP)[0]],
            [False, True, True, False, None, ((0, 1), ((0, 1), (0, 1))), (0, 1)])
        place, way = falling((CROSS, PLAIN), STRIP)
        self.assertEqual([is_in(STRIP, place), way[1]], [True, (0, 1)])
        self.told_bare(Endless, least_of, (HUMP, FALL), QUARTER)


class IsQuadratic(FaceCase):
    def test_quadratics(self):
        chance = Random(200)
        for many in (1, 2, 3):
            for _ in range(10):
                self.assertIs(is_quadratic(some_quadratic(chance, many)), True)
        self.assertIs(is_quadratic((((great_pair(),),), (great_pair(),))), True)

    def test_sizes(self):
        for many in range(1, 7):
            for size in range(8):
                told = is_quadratic((((NIL,) * many,) * many, (ONE,) * size))
                self.assertIs(told, many == size and many <= 3)

    def test_other_values(self):
        for value in NO_QUADRATICS:
            with self.subTest(value):
                self.assertIs(is_quadratic(value), False)
        for value in NO_FRACTIONS:
            with self.subTest(value):
                self.assertIs(is_quadratic((CROSS, (ONE, value))), False)
                self.assertIs(is_quadratic((CROSS, (value, ONE))), False)
                self.assertIs(is_quadratic((((value,),), (ONE,))), False)


def great_pair():
    return (10 ** 399 + 1, 10 ** 399)


class WorthsAndSlopes(FaceCase):
    def test_by_hand(self):
        quadratic = ((((1, 2), (-1, 3)), ((-1, 3), NIL)), (ONE, (-2, 1)))
        self.assertEqual(worth_at(quadratic, (TWO, (3, 1))), pair(Fraction(1, 2) * 4 - Fraction(2, 3) * 6 + 2 - 6))
        self.assertEqual(slope_at(quadratic, (TWO, (3, 1))), pairs([2 - 2 + 1, Fraction(-4, 3) - 2]))
        self.assertEqual(worth_at((((ONE,),), ((-3, 1),)), (HALF,)), (-5, 4))
        self.assertEqual(slope_at((((ONE,),), ((-3, 1),)), (HALF,)), ((-2, 1),))

    def test_many(self):
        chance = Random(201)
        for _ in range(150):
            many = chance.randrange(1, 4)
            quadratic = some_quadratic(chance, many)
            here = [chance.choice(SMALL) for _ in range(many)]
            step = [chance.choice(SMALL) for _ in range(many)]
            slope = slope_at(quadratic, pairs(here))
            self.is_row(slope, many)
            self.assertEqual(slope, pairs(slope_by_hand(quadratic, here)))
            self.assertEqual(worth_at(quadratic, pairs(here)), pair(worth_by_hand(quadratic, here)))
            # A quadratic is told in full by its slope and its bend.
            there = worth_at(quadratic, pairs([a + b for a, b in zip(here, step)]))
            bent = worth_at((quadratic[0], (NIL,) * many), pairs(step))
            self.assertEqual(number(there),
                             worth_by_hand(quadratic, here) + times_row(numbers(slope), step) + number(bent))

    def test_great_numbers(self):
        chance = Random(202)
        form = any_form(chance, 3, [great_number(chance) for _ in range(6)])
        quadratic = (form, pairs([great_number(chance) for _ in range(3)]))
        here = [great_number(chance) for _ in range(3)]
        self.assertEqual(worth_at(quadratic, pairs(here)), pair(worth_by_hand(quadratic, here)))
        self.assertEqual(slope_at(quadratic, pairs(here)), pairs(slope_by_hand(quadratic, here)))


class Bounded(FaceCase):
    def falls(self, quadratic, room):
        """Looks whether it is told that a quadratic falls for ever, and shown."""
        self.assertIs(is_bounded(quadratic, room), False)
        place, way = falling(quadratic, room)
        self.is_row(place, room[0])
        self.is_row(way, room[0])
        self.assertTrue(falls_for_ever(quadratic, room, place, way))
        self.told_bare(Endless, least_of, quadratic, room)

    def holds(self, quadratic, room):
        self.assertIs(is_bounded(quadratic, room), True)
        self.assertIsNone(falling(quadratic, room))
        self.assertTrue(is_least_over(quadratic, room, least_of(quadratic, room)))

    def test_just_one_of_both_is_told_and_shown(self):
        seen = {}
        for quadratic, room in some_held_rooms(203, 8):
            with self.subTest(quadratic=quadratic, room=room):
                bounded = is_bounded(quadratic, room)
                if bounded:
                    self.holds(quadratic, room)
                else:
                    self.falls(quadratic, room)
                word = cone_word(quadratic[0], ways_edges(room[0], room[1]))
                seen[(room[0], bounded, word)] = True
        for many in (1, 2, 3):
            for told in [(True, "above"), (True, "from"), (False, "from"), (False, "below")]:
                self.assertIn((many, *told), seen)
        self.assertEqual(len(seen), 12)

    def test_forms_on_rooms_without_rows(self):
        for many in (1, 2, 3):
            upright = form_of(units(many))
            self.holds((upright, pairs([5] * many)), ALL[many])
            self.falls((form_of([[-value for value in row] for row in units(many)]), (NIL,) * many), ALL[many])
            flat = form_of([[0] * many] * many)
            self.holds((flat, (NIL,) * many), ALL[many])
            self.falls((flat, (NIL,) * (many - 1) + ((1, 10 ** 399),)), ALL[many])
        self.falls((CROSS, PLAIN), ALL[2])
        self.holds((HUMP, (ONE, LESS)), ALL[2])
        self.falls((HUMP, (ONE, ONE)), ALL[2])

    def test_it_is_enough_to_be_below_nought_along_one_way(self):
        for by in (-TINY, 0, TINY):
            # The form is 1 - 1 at rows of two alike, but for a little.
            quadratic = (form_of([[1, -1], [-1, 1 + by]]), PLAIN)
            if by < 0:
                self.falls(quadratic, QUARTER)
            else:
                self.holds(quadratic, QUARTER)
            self.holds(quadratic, SQUARE)

    def test_slopes_where_the_form_is_nought(self):
        for first, second, bounded in [
            (1, -1, True), (-1, 1, True), (1, -1 - TINY, False), (-1, 1 - TINY, False), (TINY, TINY, True),
            (0, 0, True),
            (-TINY, 0, False), (0, -TINY, False),
        ]:
            quadratic = (HUMP, pairs([first, second]))
            with self.subTest((first, second)):
                if bounded:
                    self.holds(quadratic, QUARTER)
                else:
                    self.falls(quadratic, QUARTER)

    def test_at_each_place_and_not_at_one_alone(self):
        # 2 x y - x, for all x from 0 on: it falls just where y is below a half.
        upper = (2, ((LESS, NIL), (NIL, ONE), (NIL, LESS)), (NIL, ONE, (-1, 2)))
        lower = (2, upper[1], (NIL, HALF, NIL))
        quadratic = (CROSS, FALL)
        self.holds(quadratic, upper)
        self.assertEqual(least_of(quadratic, upper)[0], NIL)
        self.holds((CROSS, (LESS, ONE)), upper)
        for room in (lower, (2, upper[1], (NIL, ONE, NIL)), (2, upper[1], (NIL, ONE, (-1, 3)))):
            self.falls(quadratic, room)
        # Here y is from a half on, but for hardly anything.
        self.falls(quadratic, (2, upper[1], (NIL, ONE, pair(TINY - Fraction(1, 2)))))
        # At y = 0 the slope along each way of a strip is noughts, elsewhere it is not.
        self.falls((CROSS, PLAIN), STRIP)
        self.holds((CROSS, PLAIN), (2, STRIP[1], (NIL, NIL)))
        self.falls((CROSS, PLAIN), (2, STRIP[1], (ONE, LESS)))

    def test_ways_of_the_worth_nought_go_together_or_not(self):
        # On rows from 0 on x y is 0 along each axis, and each of both is asked for.
        for slopes, bounded in [((1, 1), True), ((1, -1), False), ((-1, 1), False), ((0, 0), True), ((0, -1), False)]:
            quadratic = (CROSS, pairs(slopes))
            if bounded:
                self.holds(quadratic, QUARTER)
            else:
                self.falls(quadratic, QUARTER)
        # At (2, 2) the slope of 2 x y - x - y goes up along both axes, at (0, 0) it falls.
        away = (2, QUARTER[1], ((-1, 2), (-1, 2)))
        self.holds((CROSS, (LESS, LESS)), away)
        self.falls((CROSS, (LESS, LESS)), QUARTER)

    def test_rooms_without_ways(self):
        chance = Random(204)
        for _ in range(20):
            for room in (SQUARE, SPAN, shares_room(3), shares_room(2), shares_room(1)):
                self.holds(some_quadratic(chance, room[0]), room)

    def test_empty_rooms(self):
        void = [GAP, (1, ((NIL,),), (LESS,)), (2, STRIP[1], (NIL, LESS)), (3, ((NIL,) * 3,), ((-1, 10 ** 399),))]
        for room in void + [room for room in some_rooms(205, 3) if is_empty(room)]:
            many = room[0]
            for quadratic in [(form_of(units(many)), (NIL,) * many), (form_of([[0] * many] * many), (LESS,) * many)]:
                for function in OVER_ROOMS:
                    self.told_bare(EmptyRoom, function, quadratic, room)
                    self.told_bare(EmptyRoom, function, room=room, quadratic=quadratic)

    def test_great_numbers(self):
        chance = Random(206)
        for many in (1, 2):
            values = [great_number(chance) for _ in range(8)]
            quadratic = (any_form(chance, many, values), pairs(values[:many]))
            sides = [[great_number(chance) for _ in range(many)] for _ in range(2)]
            room = (many, form_of(sides), pairs([abs(great_number(chance)) for _ in sides]))
            if is_bounded(quadratic, room):
                self.holds(quadratic, room)
            else:
                self.falls(quadratic, room)


class Least(FaceCase):
    def is_least(self, quadratic, room, low=None, place=None):
        told = least_of(quadratic, room)
        self.assertIs(type(told), tuple)
        self.assertEqual(len(told), 2)
        self.is_row((told[0],), 1)
        self.is_row(told[1], room[0])
        self.assertTrue(is_least_over(quadratic, room, told))
        # Any more than the least worth is more than some worth.
        self.assertEqual(word_over(quadratic, room, number(told[0]) + TINY), "below")
        if low is not None:
            self.assertEqual(told[0], low)
        if place is not None:
            self.assertEqual(told[1], place)

    def test_no_place_has_less(self):
        chance = Random(207)
        seen = set()
        for quadratic, room in some_held_rooms(208, 6):
            if is_bounded(quadratic, room):
                with self.subTest(quadratic=quadratic, room=room):
                    self.is_least(quadratic, room)
                    low = number(least_of(quadratic, room)[0])
                    for place in grid_places(room, chance, 6):
                        self.assertTrue(is_in(room, pairs(place)))
                        self.assertGreaterEqual(worth_by_hand(quadratic, place), low)
                    seen.add((room[0], len(told_places(room)) > 1, bool(ways_edges(room[0], room[1]))))
        self.assertGreaterEqual(len(seen), 10)

    def test_at_a_corner_on_an_edge_inside(self):
        upright = form_of(units(2))
        for target, low, place in [
            ((5, 5), None, (1, 1)), ((-1, 3), None, (0, 1)), ((5, "1/2"), None, (1, "1/2")),
            (("1/3", "1/7"), None, ("1/3", "1/7")), ((0, 0), None, (0, 0)), (("1/3", -4), None, ("1/3", 0)),
        ]:
            # The worth is the square of the distance from the target, less that of the target itself.
            quadratic = (upright, pairs([-2 * Fraction(at) for at in target]))
            self.is_least(quadratic, SQUARE, low, pairs(place))
        self.is_least((DIP, PLAIN), SQUARE, (-2, 1), (ONE, ONE))
        self.is_least((FIRM, PLAIN), SQUARE, NIL, PLAIN)
        self.is_least((form_of([[0, 0], [0, 0]]), (ONE, LESS)), SQUARE, LESS, (NIL, ONE))

    def test_in_three_unknowns(self):
        box = (3, form_of(units(3) + [[-x for x in row] for row in units(3)]), pairs([1, 1, 1, 0, 0, 0]))
        upright = form_of(units(3))
        for target in [(2, 2, 2), ("1/2", 2, -1), ("1/2", "1/3", 4), ("1/2", "1/3", "1/5"), (-1, "1/4", "2/3")]:
            near = [min(max(Fraction(at), Fraction(0)), Fraction(1)) for at in target]
            quadratic = (upright, pairs([-2 * Fraction(at) for at in target]))
            self.is_least(quadratic, box, None, pairs(near))
        away = form_of([[-value for value in row] for row in units(3)])
        self.is_least((away, pairs([1, 1, "1/2"])), box)
        self.assertEqual(least_of((away, pairs([1, 1, "1/2"])), box)[0], (-1, 2))

    def test_along_a_whole_line(self):
        self.is_least((HUMP, PLAIN), STRIP, NIL)
        self.is_least((HUMP, PLAIN), ALL[2], NIL)
        self.is_least((HUMP, (TWO, (-2, 1))), ALL[2], LESS)
        self.is_least((form_of([[0, 0], [0, 1]]), (NIL, (-1, 3))), STRIP, (-1, 36))
        self.is_least((form_of([[0, 0], [0, -1]]), PLAIN), STRIP, LESS)
        for many in (1, 2, 3):
            self.is_least((form_of([[0] * many] * many), (NIL,) * many), ALL[many], NIL)
        # x + y + z is from - 2 to 3, nothing else is asked for.
        band = (3, form_of([[1, 1, 1], [-1, -1, -1]]), pairs([3, 2]))
        summed = form_of([[1, 1, 1]] * 3)
        self.is_least((summed, pairs([1, 1, 1])), band, (-1, 4))
        self.is_least((summed, pairs([9, 9, 9])), band, (-14, 1))
        self.is_least((form_of([[-1, -1, -1]] * 3), pairs([0, 0, 0])), band, (-9, 1))

    def test_half_lines_and_lines(self):
        self.is_least((((ONE,),), (ONE,)), LINE, (-1, 4), ((-1, 2),))
        self.is_least((((ONE,),), (ONE,)), HALF_LINE, NIL, (NIL,))
        self.is_least((((ONE,),), (LESS,)), HALF_LINE, (-1, 4), (HALF,))
        self.is_least((((NIL,),), (ONE,)), HALF_LINE, NIL, (NIL,))
        self.is_least((((LESS,),), (NIL,)), SPAN, LESS, (ONE,))
        self.is_least((((LESS,),), (ONE,)), SPAN, NIL)

    def test_single_places_and_rooms_of_no_width(self):
        chance = Random(209)
        for many in (1, 2, 3):
            here = [Fraction(1, 3), Fraction(-2), Fraction(7, 5)][:many]
            sides = form_of(units(many) + [[-x for x in row] for row in units(many)])
            room = (many, sides, pairs(here + [-x for x in here]))
            quadratic = some_quadratic(chance, many)
            self.is_least(quadratic, room, pair(worth_by_hand(quadratic, here)), pairs(here))
            self.assertEqual(greatest_of(quadratic, room), least_of(quadratic, room))
        # y is just 1: 2 x y + x x is x x + 2 x.
        flat = (2, STRIP[1], (ONE, LESS))
        self.is_least((((ONE, ONE), (ONE, NIL)), PLAIN), flat, LESS, (LESS, ONE))

    def test_rows_of_noughts_and_rows_told_twice(self):
        room = (2, ((NIL, NIL), *SQUARE[1], (ONE, NIL)), (NIL, *SQUARE[2], ONE))
        self.is_least((DIP, PLAIN), room, (-2, 1), (ONE, ONE))
        room = (2, ((NIL, NIL), (ONE, ONE), (LESS, LESS), (TWO, TWO)), (ONE, ONE, LESS, TWO))
        self.is_least((form_of(units(2)), PLAIN), room, HALF, (HALF, HALF))

    def test_over_shares_it_is_the_least_worth_of_the_form(self):
        chance = Random(210)
        for many in (1, 2, 3):
            for _ in range(30):
                form = any_form(chance, many, chance.choice([SMALL, ALIKE]))
                self.assertEqual(least_of((form, (NIL,) * many), shares_room(many))[0], least_worth(form))

    def test_limits_that_move_a_little(self):
        for by in (-TINY, 0, TINY):
            room = (1, SPAN[1], pairs([1 + by, 0]))
            low = min(0, 1 + by - (1 + by) ** 2)
            self.is_least((((LESS,),), (ONE,)), room, pair(low))


class Greatest(FaceCase):
    def test_it_is_the_least_one_of_the_opposite(self):
        seen = set()
        for quadratic, room in some_held_rooms(211, 5):
            with self.subTest(quadratic=quadratic, room=room):
                under, over = is_bounded(quadratic, room), is_bounded(opposite_of(quadratic), room)
                seen.add((room[0], under, over))
                if over:
                    high, place = greatest_of(quadratic, room)
                    self.assertEqual(worth_at(quadratic, place), high)
                    self.assertTrue(is_least_over(opposite_of(quadratic), room, ((-high[0], high[1]), place)))
                else:
                    self.told_bare(Endless, greatest_of, quadratic, room)
                if not under:
                    self.told_bare(Endless, least_of, quadratic, room)
        # Endless is told for one of both, for both, and for none.
        self.assertEqual(len(seen), 12)

    def test_by_hand(self):
        self.assertEqual(greatest_of((DIP, PLAIN), SQUARE)[0], ONE)
        self.assertEqual(greatest_of((FIRM, PLAIN), SQUARE), ((6, 1), (ONE, ONE)))
        self.assertEqual(greatest_of((((LESS,),), (ONE,)), LINE), ((1, 4), (HALF,)))
        self.assertEqual(greatest_of((((NIL,),), (LESS,)), HALF_LINE), (NIL, (NIL,)))
        self.told_bare(Endless, greatest_of, (((NIL,),), (ONE,)), HALF_LINE)
        self.told_bare(Endless, greatest_of, (CROSS, PLAIN), STRIP)
        self.told_bare(Endless, least_of, (CROSS, PLAIN), STRIP)
        self.assertEqual(greatest_of((((ONE,),), (NIL,)), SPAN), (ONE, (ONE,)))


class Errors(FaceCase):
    def test_quadratic(self):
        for value in NO_QUADRATICS:
            with self.subTest(value):
                for function in OVER_ROOMS:
                    self.told(InvalidQuadratic, "given", value, function, value, SQUARE)
                    self.told(InvalidQuadratic, "given", value, function, room=SQUARE, quadratic=value)
                for function in (worth_at, slope_at):
                    self.told(InvalidQuadratic, "given", value, function, value, (ONE, ONE))
                    self.told(InvalidQuadratic, "given", value, function, place=None, quadratic=value)

    def test_room(self):
        for value in NO_ROOMS:
            with self.subTest(value):
                for function in OVER_ROOMS:
                    self.told(InvalidRoom, "given", value, function, (CROSS, PLAIN), value)
                    self.told(InvalidRoom, "given", value, function, room=value, quadratic=(((ONE,),), (ONE,)))

    def test_room_of_another_number_of_unknowns(self):
        empty = {1: GAP, 2: (2, ((NIL, NIL),), (LESS,)), 3: (3, ((NIL,) * 3,), (LESS,))}
        for many in (1, 2, 3):
            quadratic = (form_of(units(many)), (NIL,) * many)
            for other in (1, 2, 3):
                for room in (ALL[other], empty[other]):
                    for function in OVER_ROOMS:
                        if other != many:
                            self.told(InvalidRoom, "given", room, function, quadratic, room)

    def test_no_place(self):
        for value in OTHER_SORTS + [0, (), (ONE,), (ONE, ONE, ONE), [ONE, ONE], {0: ONE, 1: ONE}, "ab", (NIL,) * 7]:
            for function in (worth_at, slope_at):
                with self.subTest(value):
                    self.told(InvalidRow, "index", None, function, (CROSS, PLAIN), value)
        for many in (1, 2, 3):
            for size in range(6):
                if size != many:
                    self.told(InvalidRow, "index", None, worth_at, (form_of(units(many)), (NIL,) * many), (ONE,) * size)

    def test_the_first_that_is_no_fraction(self):
        quadratic = (form_of(units(3)), (NIL,) * 3)
        for value in NO_FRACTIONS:
            with self.subTest(value):
                for function in (worth_at, slope_at):
                    for at in range(3):
                        self.told(InvalidRow, "index", at, function, quadratic, (LESS,) * at + (value,) * (3 - at))

    def test_the_first_wrong_argument_is_told(self):
        bad = [CROSS]
        for function in OVER_ROOMS:
            self.told(InvalidQuadratic, "given", bad, function, bad, None)
            self.told(InvalidQuadratic, "given", bad, function, bad, GAP)
            self.told(InvalidRoom, "given", GAP, function, (CROSS, PLAIN), GAP)
        for function in (worth_at, slope_at):
            self.told(InvalidQuadratic, "given", bad, function, bad, None)
            self.told(InvalidRow, "index", 1, function, (CROSS, PLAIN), (ONE, 1))
        # An empty room is told before what is endless.
        self.told_bare(EmptyRoom, least_of, (((LESS,),), (ONE,)), GAP)
        self.told_bare(EmptyRoom, greatest_of, (((ONE,),), (ONE,)), GAP)

    def test_no_argument_is_changed(self):
        for value in [[CROSS, [ONE, ONE]], {0: CROSS, 1: PLAIN}, [[], [[]]]]:
            kept = deepcopy(value)
            self.assertIs(is_quadratic(value), False)
            for function in OVER_ROOMS:
                self.told(InvalidQuadratic, "given", value, function, value, SQUARE)
                self.told(InvalidRoom, "given", value, function, (CROSS, PLAIN), value)
            self.told(InvalidRow, "index", None, worth_at, (CROSS, PLAIN), value)
            self.assertEqual(value, kept)

    def test_equal_calls_have_equal_results(self):
        for quadratic, room in some_held_rooms(212, 1):
            again = (form_of(table(quadratic[0])), pairs(numbers(quadratic[1])))
            same = (room[0], form_of([numbers(row) for row in room[1]]), pairs(numbers(room[2])))
            self.assertEqual(falling(quadratic, room), falling(again, same))
            if is_bounded(quadratic, room):
                self.assertEqual(least_of(quadratic, room), least_of(again, same))
                self.assertEqual(least_of(room=room, quadratic=quadratic), least_of(again, same))

    def test_by_name_and_plain_kinds(self):
        self.assertIs(is_quadratic(value=(CROSS, PLAIN)), True)
        self.assertEqual(worth_at(place=(ONE, TWO), quadratic=(FIRM, FALL)), (13, 1))
        self.assertEqual(slope_at(place=(ONE, TWO), quadratic=(FIRM, FALL)), ((7, 1), (10, 1)))
        self.assertIs(is_bounded(room=STRIP, quadratic=(HUMP, PLAIN)), True)
        self.assertIs(falling(room=STRIP, quadratic=(HUMP, PLAIN)), None)
        self.assertEqual(greatest_of(room=SQUARE, quadratic=(FIRM, PLAIN))[0], (6, 1))

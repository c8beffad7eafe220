from copy import deepcopy
from random import Random

from everyface.errors import InvalidForm, InvalidLot, InvalidRow
from everyface.forms import led, part_of, product, worth
from everyface.shares import is_least_place, least_corners, least_faces, least_worth, stand
from tests.samples import (
    CROSS, DIP, FIRM, FLAT, FaceCase, HALF, HUMP, LESS, NIL, NO_FORMS, NO_FRACTIONS, NO_LOTS, NO_PLACES, ONE,
    OTHER_SORTS, SINGLE, TWO, any_form, form_of, form_with, great_number, is_mix_of, led_to, lots_of, many_forms,
    number, numbers, pair, pairs, product_of, raised, shares_by, table, told_stand,
)

SIX_FLAT = ((NIL,) * 6,) * 6
# The corners of these are single places; two go together where the number is 0.
CHAIN = form_of([[0, 0, 1], [0, 0, 0], [1, 0, 0]])
RING = form_of([[0 if (i - j) % 5 in (0, 1, 4) else 2 for j in range(5)] for i in range(5)])
PAIRS = form_of([[1 if i != j and i // 2 == j // 2 else 0 for j in range(6)] for i in range(6)])
# Its corners have the lots (0, 2) and (1,), of 1 / 2.
SPLIT = form_of([[1, "3/2", 0], ["3/2", "1/2", "3/2"], [0, "3/2", 1]])


def lot_of(row):
    return tuple([at for at, value in enumerate(row) if value != NIL])


class Examples(FaceCase):
    def test_the_document(self):
        self.assertEqual(
            [least_worth(HUMP), least_worth(CROSS), least_worth(FIRM), least_worth(DIP), stand(CROSS, (0, 1)),
             stand(FLAT, (0, 1))],
            [(0, 1), (0, 1), (3, 2), (-1, 2), ((1, 2), (1, 2)), None])
        self.assertEqual(
            [least_corners(HUMP), least_corners(CROSS), least_faces(CROSS), least_corners(FLAT), least_faces(FLAT)],
            [(((1, 2), (1, 2)),), (((1, 1), (0, 1)), ((0, 1), (1, 1))), ((0,), (1,)),
             (((1, 1), (0, 1)), ((0, 1), (1, 1))), ((0, 1),)])
        self.assertEqual(
            [is_least_place(CROSS, (HALF, HALF)), is_least_place(FLAT, (HALF, HALF)), is_least_place(FLAT, (ONE, ONE))],
            [False, True, False])


class Stands(FaceCase):
    def test_single_places_stand(self):
        self.assertEqual(stand(SINGLE, (0,)), (ONE,))
        for form in many_forms(10, 1):
            for at in range(len(form)):
                self.assertEqual(stand(form, (at,)), (NIL,) * at + (ONE,) + (NIL,) * (len(form) - at - 1))

    def test_a_stand_is_a_row_of_all_places(self):
        self.assertEqual(stand(((ONE, NIL, NIL), (NIL, ONE, NIL), (NIL, NIL, ONE)), (0, 2)), (HALF, NIL, HALF))

    def test_parts_that_lead_more_than_noughts_to_noughts_may_stand(self):
        self.assertEqual(stand(HUMP, (0, 1)), (HALF, HALF))
        self.assertEqual(stand(form_of([[1, -2], [-2, 4]]), (0, 1)), ((2, 3), (1, 3)))

    def test_no_pair(self):
        self.assertIsNone(stand(form_of([[1, 0], [0, -1]]), (0, 1)))

    def test_more_than_one_pair(self):
        self.assertIsNone(stand(form_of([[1, 1], [1, 1]]), (0, 1)))
        self.assertIsNone(stand(SIX_FLAT, (0, 1, 2, 3, 4, 5)))
        self.assertIsNone(stand(form_of([[1, 1, 0], [1, 1, 0], [0, 0, 1]]), (0, 1, 2)))

    def test_numbers_up_to_nought(self):
        self.assertIsNone(stand(form_of([[1, 1], [1, 2]]), (0, 1)))
        self.assertIsNone(stand(form_of([[1, 2], [2, 5]]), (0, 1)))

    def test_worths_of_each_sign(self):
        for form, low in [(FIRM, (3, 2)), (HUMP, NIL), (DIP, (-1, 2)), (CROSS, HALF)]:
            self.assertEqual(worth(form, stand(form, (0, 1))), low)

    def test_all_lots_of_many_forms(self):
        for form in many_forms(11, 4):
            for lot in lots_of(len(form)):
                with self.subTest(form=form, lot=lot):
                    told = told_stand(form, lot)
                    self.assertEqual(stand(form, lot), None if told is None else told[0])

    def test_by_name(self):
        self.assertEqual(stand(lot=(0, 1), form=CROSS), (HALF, HALF))


class LeastWorths(FaceCase):
    def is_reached(self, form, low):
        """Whether shares have this worth."""
        row = least_corners(form)[0]
        self.assertEqual(sum(numbers(row)), 1)
        self.assertGreaterEqual(min(numbers(row)), 0)
        self.assertEqual(worth(form, row), low)

    def is_for_all(self, form, low):
        """No shares have a lesser worth: for each lot there are some that its part leads to it at least (Gaddum)."""
        for lot in lots_of(len(form)):
            part = part_of(form, lot)
            row = numbers(least_corners(part)[0])
            self.assertEqual(sum(row), 1)
            self.assertGreaterEqual(min(row), 0)
            self.assertGreaterEqual(min(led_to(table(part), row)), number(low))

    def test_many_forms(self):
        for form in many_forms(12, 4):
            with self.subTest(form):
                low = least_worth(form)
                self.is_reached(form, low)
                self.is_for_all(form, low)

    def test_great_numbers(self):
        chance = Random(13)
        for many in (1, 2, 3):
            form = any_form(chance, many, [great_number(chance) for _ in range(20)])
            low = least_worth(form)
            self.is_reached(form, low)
            self.is_for_all(form, low)
        great = (10 ** 399, 1)
        self.assertEqual(least_worth(((great, NIL), (NIL, great))), (10 ** 399 // 2, 1))
        self.assertEqual(least_worth((((-1, 10 ** 399),),)), (-1, 10 ** 399))

    def test_one_row(self):
        for value in [NIL, ONE, LESS, (-7, 3)]:
            self.assertEqual(least_worth(((value,),)), value)
            self.assertEqual(least_corners(((value,),)), ((ONE,),))
            self.assertEqual(least_faces(((value,),)), ((0,),))

    def test_six_rows(self):
        ones = form_of([[1 if i == j else 0 for j in range(6)] for i in range(6)])
        self.assertEqual(least_worth(ones), (1, 6))
        self.assertEqual(least_corners(ones), (((1, 6),) * 6,))
        self.assertEqual(least_worth(SIX_FLAT), NIL)

    def test_no_shares_by_parts_have_a_lesser_worth(self):
        for form in many_forms(14, 2):
            rows, low = table(form), number(least_worth(form))
            for parts in range(1, 6):
                for row in shares_by(len(form), parts):
                    value = product_of(rows, numbers(row), numbers(row))
                    self.assertGreaterEqual(value, low)
                    self.assertEqual(is_least_place(form, row), value == low)

    def test_forms_that_bend_down_between_places(self):
        self.assertEqual(least_worth(form_of([[3, 5], [5, 2]])), TWO)
        self.assertEqual(least_corners(form_of([[3, 5], [5, 2]])), ((NIL, ONE),))


class Corners(FaceCase):
    def test_they_are_the_stands_of_the_least_worth_in_the_order_of_lots(self):
        for form in many_forms(15, 4):
            with self.subTest(form):
                stands = [told_stand(form, lot) for lot in lots_of(len(form))]
                stands = [found for found in stands if found is not None]
                low = min([number(found[1]) for found in stands])
                self.assertEqual(least_worth(form), pair(low))
                self.assertEqual(least_corners(form), tuple([row for row, value in stands if number(value) == low]))

    def test_the_order_is_that_of_lots_as_tuples(self):
        self.assertEqual(least_corners(SPLIT), ((HALF, NIL, HALF), (NIL, ONE, NIL)))
        self.assertEqual(least_corners(CHAIN), ((ONE, NIL, NIL), (NIL, ONE, NIL), (NIL, NIL, ONE)))
        lots = [lot_of(row) for row in least_corners(form_of([[1, -1, 1], [-1, 1, -1], [1, -1, 1]]))]
        self.assertEqual(lots, [(0, 1), (1, 2)])

    def test_each_is_led_to_the_least_worth_at_least_and_just_to_it_on_its_lot(self):
        for form in many_forms(16, 4):
            low = number(least_worth(form))
            for row in least_corners(form):
                there = numbers(led(form, row))
                self.assertGreaterEqual(min(there), low)
                self.assertEqual({there[at] for at in lot_of(row)}, {low})

    def test_no_stand_is_told_but_those_of_the_least_worth(self):
        self.assertEqual(least_corners(FIRM), ((HALF, HALF),))
        self.assertEqual(least_corners(form_of([[0, 1], [1, 1]])), ((ONE, NIL),))


class Faces(FaceCase):
    def told_faces(self, form):
        """The least faces by the words of the document: of all lots of indexes those that are within no other."""
        low, corners = least_worth(form), least_corners(form)
        lots = []
        for lot in lots_of(len(corners)):
            if all([product(form, corners[i], corners[j]) == low for i in lot for j in lot if i < j]):
                lots.append(lot)
        return tuple([lot for lot in lots if not any([set(lot) < set(other) for other in lots])])

    def test_many_forms(self):
        sizes = set()
        for form in many_forms(17, 6):
            if len(least_corners(form)) < 9:
                with self.subTest(form):
                    faces = least_faces(form)
                    self.assertEqual(faces, self.told_faces(form))
                    sizes = sizes | {(len(faces), len(face)) for face in faces}
        self.assertGreater(len(sizes), 6)

    def test_faces_within_others_are_left_out(self):
        self.assertEqual(least_faces(SIX_FLAT), ((0, 1, 2, 3, 4, 5),))
        self.assertEqual(least_faces(CHAIN), ((0, 1), (1, 2)))
        self.assertEqual(least_faces(form_of([[0, 1, 0], [1, 0, 0], [0, 0, 0]])), ((0, 2), (1, 2)))

    def test_faces_around_a_ring(self):
        self.assertEqual(least_faces(RING), ((0, 1), (0, 4), (1, 2), (2, 3), (3, 4)))

    def test_faces_of_one_index(self):
        self.assertEqual(least_faces(CROSS), ((0,), (1,)))
        self.assertEqual(least_faces(SPLIT), ((0,), (1,)))
        self.assertEqual(least_faces(form_of([[0, 1, 1], [1, 0, 0], [1, 0, 0]])), ((0,), (1, 2)))

    def test_one_of_each_of_three_pairs(self):
        told = ((0, 2, 4), (0, 2, 5), (0, 3, 4), (0, 3, 5), (1, 2, 4), (1, 2, 5), (1, 3, 4), (1, 3, 5))
        self.assertEqual(least_faces(PAIRS), told)

    def test_the_least_worth_may_be_other_than_nought(self):
        for form in [CHAIN, RING, PAIRS, SPLIT]:
            for by in ("7/3", -2):
                self.assertEqual(least_faces(raised(form, number(pair(by)))), least_faces(form))


class LeastPlaces(FaceCase):
    def test_just_the_mixes_of_corners_that_go_together(self):
        both = set()
        for form in many_forms(18, 2) + [CHAIN, RING, PAIRS, SPLIT]:
            corners = least_corners(form)
            if len(corners) > 6:
                continue
            faces = [[corners[k] for k in face] for face in least_faces(form)]
            for row in shares_by(len(form), 4 if len(form) < 5 else 2) + list(corners):
                with self.subTest(form=form, row=row):
                    mixed = any([is_mix_of(row, face) for face in faces])
                    self.assertIs(is_least_place(form, row), mixed)
                    both.add((mixed, len(form)))
        self.assertEqual(len(both), 11)

    def test_mixes_of_the_corners_of_each_face(self):
        chance = Random(19)
        for form in many_forms(20, 3):
            corners = least_corners(form)
            for face in least_faces(form):
                parts = [chance.randrange(1, 9) for _ in face]
                mixed = [sum([number(pair(part)) * x for part, x in zip(parts, column)]) / sum(parts)
                         for column in zip(*[numbers(corners[k]) for k in face])]
                self.assertIs(is_least_place(form, pairs(mixed)), True)

    def test_mixes_of_corners_that_do_not_go_together(self):
        self.assertIs(is_least_place(CHAIN, (HALF, NIL, HALF)), False)
        self.assertIs(is_least_place(CHAIN, ((1, 3), (1, 3), (1, 3))), False)
        self.assertIs(is_least_place(CHAIN, (HALF, HALF, NIL)), True)
        self.assertIs(is_least_place(SPLIT, ((1, 4), HALF, (1, 4))), False)

    def test_rows_that_are_no_shares(self):
        for row in [(NIL, NIL), (ONE, ONE), (HALF, NIL), (TWO, LESS), (LESS, TWO), ((3, 2), (-1, 2)), (LESS, LESS)]:
            for form in [FLAT, HUMP, CROSS, FIRM, DIP]:
                with self.subTest(form=form, row=row):
                    self.assertIs(is_least_place(form, row), False)
        self.assertIs(is_least_place(SINGLE, (ONE,)), True)
        self.assertIs(is_least_place(SINGLE, (LESS,)), False)
        self.assertIs(is_least_place(((NIL,),), (TWO,)), False)

    def test_what_is_returned_may_be_passed(self):
        chance = Random(21)
        form = any_form(chance, 3, [great_number(chance) for _ in range(9)])
        row = least_corners(form)[0]
        self.assertIs(is_least_place(form, row), True)
        self.assertEqual(worth(form, row), least_worth(form))
        self.assertEqual(least_worth(((least_worth(form),),)), least_worth(form))

    def test_by_name(self):
        self.assertIs(is_least_place(row=(HALF, HALF), form=HUMP), True)
        self.assertEqual(least_worth(form=FIRM), (3, 2))
        self.assertEqual(least_corners(form=FIRM), ((HALF, HALF),))
        self.assertEqual(least_faces(form=CROSS), ((0,), (1,)))


class Errors(FaceCase):
    def test_form(self):
        wrong = NO_FORMS + [form_with((0, 1), value) for value in NO_FRACTIONS]
        for value in wrong:
            with self.subTest(value):
                self.told(InvalidForm, "given", value, stand, value, (0,))
                self.told(InvalidForm, "given", value, least_worth, value)
                self.told(InvalidForm, "given", value, least_corners, value)
                self.told(InvalidForm, "given", value, least_faces, value)
                self.told(InvalidForm, "given", value, is_least_place, value, (HALF, HALF))

    def test_no_lot(self):
        for value in NO_LOTS:
            with self.subTest(value):
                self.told(InvalidLot, "index", None, stand, HUMP, value)

    def test_the_first_that_is_no_place(self):
        for value in NO_PLACES + [2, 3]:
            with self.subTest(value):
                self.told(InvalidLot, "index", 0, stand, HUMP, (value,))
                self.told(InvalidLot, "index", 0, stand, HUMP, (value, 1))
                self.told(InvalidLot, "index", 1, stand, HUMP, (0, value))
                self.told(InvalidLot, "index", 1, stand, HUMP, (0, value, 0))

    def test_lots_that_do_not_ascend(self):
        for lot, at in [((0, 0), 1), ((1, 0), 1), ((0, 2, 1), 2), ((0, 1, 2, 2), 3), ((3, 1, 9), 1), ((0, 6, 1), 1)]:
            with self.subTest(lot):
                self.told(InvalidLot, "index", at, stand, SIX_FLAT, lot)

    def test_no_row(self):
        for value in OTHER_SORTS + [0, (), (ONE,), (HALF, HALF, NIL), [HALF, HALF], {0: HALF, 1: HALF}, "ab"]:
            with self.subTest(value):
                self.told(InvalidRow, "index", None, is_least_place, HUMP, value)

    def test_the_first_that_is_no_fraction(self):
        for value in NO_FRACTIONS:
            for at in range(6):
                with self.subTest(value=value, at=at):
                    self.told(InvalidRow, "index", at, is_least_place, SIX_FLAT, (NIL,) * at + (value,) * (6 - at))
                    self.told(InvalidRow, "index", at, is_least_place, SIX_FLAT,
                              (TWO,) * at + (value,) + (LESS,) * (5 - at))

    def test_the_first_wrong_argument_is_told(self):
        bad = {0: HUMP}
        self.told(InvalidForm, "given", bad, stand, bad, ())
        self.told(InvalidForm, "given", bad, stand, lot=(), form=bad)
        self.told(InvalidForm, "given", bad, is_least_place, bad, None)
        self.told(InvalidForm, "given", bad, is_least_place, row=None, form=bad)

    def test_no_argument_is_changed(self):
        for value in [[[ONE, ONE], [ONE, ONE]], {0: [ONE], 1: {}}, [[], [[]]]]:
            kept = deepcopy(value)
            for function in (least_worth, least_corners, least_faces):
                self.told(InvalidForm, "given", value, function, value)
            self.told(InvalidLot, "index", None, stand, HUMP, value)
            self.told(InvalidRow, "index", 1, is_least_place, HUMP, (HALF, value))
            self.assertEqual(value, kept)

    def test_equal_calls_have_equal_results(self):
        for form in many_forms(22, 1):
            again = form_of(table(form))
            for function in (least_worth, least_corners, least_faces):
                self.assertEqual(function(form), function(again))
                self.assertEqual(function(form), function(form))
            self.assertEqual(stand(form, (0,)), stand(again, (0,)))


class Kinds(FaceCase):
    def is_whole(self, value):
        return type(value) is int

    def is_row(self, row, many):
        return type(row) is tuple and len(row) == many and all(
            [type(x) is tuple and len(x) == 2 and all(map(self.is_whole, x)) and pair(number(x)) == x for x in row])

    def test_all_answers_are_tuples_of_whole_numbers(self):
        for form in many_forms(23, 2):
            self.assertTrue(self.is_row((least_worth(form),), 1))
            corners, faces = least_corners(form), least_faces(form)
            self.assertIs(type(corners), tuple)
            self.assertTrue(all([self.is_row(row, len(form)) for row in corners]))
            self.assertIs(type(faces), tuple)
            for face in faces:
                self.assertIs(type(face), tuple)
                self.assertTrue(all(map(self.is_whole, face)))
            self.assertEqual(list(faces), sorted(faces))
            self.assertTrue(self.is_row(led(form, corners[0]), len(form)))
            self.assertTrue(self.is_row((worth(form, corners[0]), product(form, corners[0], corners[-1])), 2))

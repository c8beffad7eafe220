from copy import deepcopy
from random import Random

from everyface.errors import InvalidForm, InvalidLot, InvalidRow
from everyface.forms import is_form, led, part_of, product, worth
from tests.samples import (
    CROSS, DIP, FIRM, FLAT, FaceCase, HALF, HUMP, LESS, NIL, NO_FORMS, NO_FRACTIONS, NO_LOTS, NO_PLACES, ONE,
    OTHER_SORTS, SINGLE, SMALL, TWO, any_form, form_of, form_with, great_number, led_to, lots_of, many_forms, number,
    numbers, pair, pairs, product_of, table,
)

SIX = form_of([[i * j - 7 for j in range(6)] for i in range(6)])
NO_ROWS = OTHER_SORTS + [0, 1, (), (ONE,), (ONE, ONE, ONE), [ONE, ONE], (NIL,) * 7, "ab", {0: ONE, 1: ONE}, HUMP + HUMP]


class Examples(FaceCase):
    def test_the_document(self):
        self.assertEqual(
            [is_form(HUMP), is_form(((ONE, TWO), (ONE, ONE))), is_form(((ONE,),)), worth(HUMP, (TWO, HALF)),
             product(CROSS, (ONE, TWO), (ONE, ONE)), led(DIP, (ONE, ONE)), part_of(FIRM, (1,))],
            [True, False, True, (9, 4), (3, 1), ((-1, 1), (-1, 1)), (((2, 1),),)])


class IsForm(FaceCase):
    def test_forms(self):
        for form in [HUMP, CROSS, FIRM, DIP, FLAT, SINGLE, SIX] + many_forms(1, 3):
            with self.subTest(form):
                self.assertIs(is_form(form), True)

    def test_sizes(self):
        for many in range(9):
            with self.subTest(many):
                self.assertIs(is_form(((NIL,) * many,) * many), 1 <= many <= 6)

    def test_great_numbers(self):
        great = (10 ** 399 + 1, 10 ** 399)
        self.assertIs(is_form(((great, LESS), (LESS, great))), True)
        self.assertIs(is_form((((10 ** 399, 10 ** 398),),)), False)

    def test_other_values(self):
        for value in NO_FORMS:
            with self.subTest(value):
                self.assertIs(is_form(value), False)

    def test_other_values_in_the_place_of_a_row(self):
        for value in OTHER_SORTS + [0, 1, (), (ONE,), (ONE,) * 3, [ONE, LESS], "ab", {0: ONE, 1: LESS}]:
            for form in [(value, (LESS, ONE)), ((ONE, LESS), value), (value, value)]:
                with self.subTest(form):
                    self.assertIs(is_form(form), False)
            self.assertIs(is_form((value,)), value == (ONE,))

    def test_other_values_in_the_place_of_a_fraction(self):
        for value in NO_FRACTIONS:
            with self.subTest(value):
                self.assertIs(is_form(((value,),)), False)
                self.assertIs(is_form(((ONE, value), (value, ONE))), False)
                for i in range(2):
                    for j in range(2):
                        self.assertIs(is_form(form_with((i, j), value)), False)

    def test_each_pair_of_places_has_to_be_alike(self):
        for i in range(6):
            for j in range(6):
                with self.subTest((i, j)):
                    self.assertIs(is_form(form_with((i, j), (1, 9), SIX)), i == j)

    def test_by_name(self):
        self.assertIs(is_form(value=HUMP), True)
        self.assertIs(is_form(value=[]), False)


class Numbers(FaceCase):
    def same(self, form, row, column):
        rows, one, other = table(form), numbers(row), numbers(column)
        self.assertEqual(led(form, row), pairs(led_to(rows, one)))
        self.assertEqual(product(form, row, column), pair(product_of(rows, one, other)))
        self.assertEqual(product(form, column, row), pair(product_of(rows, one, other)))
        self.assertEqual(worth(form, row), pair(product_of(rows, one, one)))

    def test_many_forms(self):
        chance = Random(2)
        for form in many_forms(3, 8):
            row, column = [pairs([chance.choice(SMALL) for _ in form]) for _ in range(2)]
            with self.subTest(form=form, row=row, column=column):
                self.same(form, row, column)

    def test_great_numbers(self):
        chance = Random(4)
        for many in (1, 2, 6):
            values = [great_number(chance) for _ in range(30)]
            form = any_form(chance, many, values)
            self.same(form, pairs(values[:many]), pairs(values[-many:]))

    def test_answers_are_fractions(self):
        third = (1, 3)
        self.assertEqual(led(((third, third), (third, NIL)), (ONE, TWO)), (ONE, third))
        self.assertEqual(led(HUMP, (ONE, ONE)), (NIL, NIL))
        self.assertEqual(worth(DIP, ((2, 3), (2, 3))), (-8, 9))
        self.assertEqual(product(SINGLE, (LESS,), ((3, 5),)), LESS)
        self.assertEqual(worth(SINGLE, (NIL,)), NIL)

    def test_rows_may_be_below_nought(self):
        self.assertEqual(led(FIRM, (LESS, ONE)), (LESS, ONE))
        self.assertEqual(worth(CROSS, (LESS, ONE)), (-2, 1))

    def test_what_is_returned_may_be_passed(self):
        chance = Random(5)
        form = any_form(chance, 2, [great_number(chance) for _ in range(3)])
        row = (ONE, HALF)
        for _ in range(5):
            row = led(form, row)
        self.same(form, row, row)
        self.assertGreater(row[0][1], 10 ** 1000)
        self.assertEqual(number(led((row, (row[1], ONE)), (ONE, NIL))[0]), number(row[0]))

    def test_by_name(self):
        row, column = (ONE, TWO), (HALF, ONE)
        self.assertEqual(led(row=row, form=DIP), led(DIP, row))
        self.assertEqual(product(column=column, row=row, form=DIP), product(DIP, row, column))
        self.assertEqual(worth(row=row, form=DIP), worth(DIP, row))
        self.assertEqual(part_of(lot=(1,), form=DIP), part_of(DIP, (1,)))


class Parts(FaceCase):
    def test_each_lot(self):
        chance = Random(6)
        for many in range(1, 7):
            form = any_form(chance, many, SMALL)
            for lot in lots_of(many):
                with self.subTest(form=form, lot=lot):
                    part = part_of(form, lot)
                    self.assertEqual(part, tuple([tuple([form[i][j] for j in lot]) for i in lot]))
                    self.assertIs(is_form(part), True)

    def test_the_part_on_all_places_is_the_form(self):
        self.assertEqual(part_of(SIX, (0, 1, 2, 3, 4, 5)), SIX)
        self.assertEqual(part_of(SINGLE, (0,)), SINGLE)


class Errors(FaceCase):
    def test_form(self):
        for value in NO_FORMS:
            with self.subTest(value):
                self.told(InvalidForm, "given", value, led, value, (ONE, ONE))
                self.told(InvalidForm, "given", value, product, value, (ONE, ONE), (ONE, ONE))
                self.told(InvalidForm, "given", value, worth, value, (ONE, ONE))
                self.told(InvalidForm, "given", value, part_of, value, (0,))

    def test_a_wrong_fraction_in_a_form(self):
        for value in NO_FRACTIONS:
            form = form_with((1, 0), value)
            with self.subTest(value):
                self.told(InvalidForm, "given", form, led, form, (ONE, ONE))
                self.told(InvalidForm, "given", form, part_of, form, (0,))

    def test_no_row(self):
        for value in NO_ROWS:
            with self.subTest(value):
                self.told(InvalidRow, "index", None, led, HUMP, value)
                self.told(InvalidRow, "index", None, worth, HUMP, value)
                self.told(InvalidRow, "index", None, product, HUMP, value, (ONE, ONE))
                self.told(InvalidRow, "index", None, product, HUMP, (ONE, ONE), value)

    def test_the_first_that_is_no_fraction(self):
        for value in NO_FRACTIONS:
            for at in range(6):
                row = (ONE,) * at + (value,) * (6 - at)
                with self.subTest(value=value, at=at):
                    self.told(InvalidRow, "index", at, led, SIX, row)
                    self.told(InvalidRow, "index", at, worth, SIX, row)
                    self.told(InvalidRow, "index", at, product, SIX, row, (ONE,) * 6)
                    self.told(InvalidRow, "index", at, product, SIX, (ONE,) * 6, row)
                self.told(InvalidRow, "index", at, led, SIX, row[:at + 1] + (ONE,) * (5 - at))

    def test_no_lot(self):
        for value in NO_LOTS:
            with self.subTest(value):
                self.told(InvalidLot, "index", None, part_of, SIX, value)

    def test_the_first_that_is_no_place(self):
        for value in NO_PLACES + [2, 3]:
            with self.subTest(value):
                self.told(InvalidLot, "index", 0, part_of, HUMP, (value,))
                self.told(InvalidLot, "index", 0, part_of, HUMP, (value, 1))
                self.told(InvalidLot, "index", 1, part_of, HUMP, (0, value))
                self.told(InvalidLot, "index", 2, part_of, HUMP, (0, 1, value))
                self.told(InvalidLot, "index", 1, part_of, HUMP, (0, value, value))

    def test_lots_that_do_not_ascend(self):
        told = {(0, 0): 1, (1, 0): 1, (0, 2, 1): 2, (0, 1, 1, 2): 2, (5, 4): 1, (5, 5): 1, (0, 1, 2, 3, 4, 5, 5): 6,
                (0, 1, 2, 3, 4, 5, 6): 6, (6,): 0, (5, 6): 1, (3, 1, 9): 1, (0, 9, 1): 1, (-1, 0): 0,
                (2, 3, 2, None): 2}
        for lot, at in told.items():
            with self.subTest(lot):
                self.told(InvalidLot, "index", at, part_of, SIX, lot)

    def test_the_size_of_the_form_bounds_row_and_lot(self):
        for many in range(1, 7):
            form = ((ONE,) * many,) * many
            self.assertEqual(led(form, (NIL,) * many), (NIL,) * many)
            self.told(InvalidRow, "index", None, led, form, (NIL,) * (many - 1))
            self.told(InvalidRow, "index", None, led, form, (NIL,) * (many + 1))
            self.told(InvalidLot, "index", 0, part_of, form, (many,))

    def test_the_first_wrong_argument_is_told(self):
        bad = [HUMP]
        self.told(InvalidForm, "given", bad, led, bad, None)
        self.told(InvalidForm, "given", bad, led, row=None, form=bad)
        self.told(InvalidForm, "given", bad, worth, bad, None)
        self.told(InvalidForm, "given", bad, product, bad, None, None)
        self.told(InvalidForm, "given", bad, part_of, bad, ())
        self.told(InvalidForm, "given", bad, part_of, lot=(), form=bad)
        self.told(InvalidRow, "index", 1, product, HUMP, (ONE, 1), None)
        self.told(InvalidRow, "index", 1, product, HUMP, (ONE, 1), (1, ONE))
        self.told(InvalidRow, "index", None, product, HUMP, (ONE,), (1, ONE))
        self.told(InvalidRow, "index", 0, product, HUMP, (ONE, ONE), (1, 1))
        self.told(InvalidRow, "index", 0, product, column=(1, 1), row=(ONE, ONE), form=HUMP)
        self.told(InvalidRow, "index", None, led, HUMP, (None, None, None))
        self.told(InvalidLot, "index", 1, part_of, HUMP, (0, 5, 1))

    def test_no_argument_is_changed(self):
        for value in [[[ONE, ONE], [ONE, ONE]], {0: [ONE], 1: {}}, [[], [[]]], {(0, 1): 2}]:
            kept = deepcopy(value)
            with self.subTest(value):
                self.assertIs(is_form(value), False)
                self.told(InvalidForm, "given", value, led, value, value)
                self.told(InvalidRow, "index", None, product, HUMP, value, value)
                self.told(InvalidRow, "index", 0, worth, HUMP, (value, value))
                self.told(InvalidLot, "index", None, part_of, HUMP, value)
                self.told(InvalidLot, "index", 1, part_of, HUMP, (0, value))
                self.assertEqual(value, kept)

    def test_equal_calls_have_equal_results(self):
        for form in many_forms(7, 1):
            row, other = ((2, 3),) * len(form), tuple([(2, 3) for _ in form])
            again = form_of(table(form))
            self.assertEqual(led(form, row), led(again, other))
            self.assertEqual(worth(form, row), worth(again, other))
            self.assertEqual(part_of(form, (0,)), part_of(again, (0,)))

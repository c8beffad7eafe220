from copy import deepcopy
from fractions import Fraction
from math import floor
from random import Random

from everyface.errors import InvalidForm, InvalidNumber, NotAbove
from everyface.shares import least_worth
from everyface.sunk import sunk_near
from tests.samples import (
    CROSS, DIP, FIRM, FLAT, FaceCase, HALF, HUMP, LESS, NIL, NO_FORMS, NO_FRACTIONS, NO_NUMBERS, ONE, SINGLE, SMALL,
    TWO, any_form, form_of, form_with, great_number, many_forms, number, table, told_word, units, with_zero,
)

ONES = ((ONE, ONE), (ONE, ONE))
ALONE = form_of(units(2))


def less_by(form, other, factor):
    """The form, less a factor times the other one."""
    return form_of([[a - factor * b for a, b in zip(*rows)] for rows in zip(table(form), table(other))])


def above_form(chance, many):
    """A form whose word is above."""
    rows = with_zero(chance, [1] * many)
    rows[0][0] += Fraction(chance.randrange(1, 9), chance.randrange(1, 9))
    return form_of(rows)


class Examples(FaceCase):
    def test_the_document(self):
        self.assertEqual(
            [sunk_near(FIRM, ONES, 10), sunk_near(FIRM, ONES, 1), sunk_near(HUMP, FIRM, 10), sunk_near(DIP, FIRM, 4)],
            [(15, True), (1, False), (0, True), (-2, False)])
        self.told_bare(NotAbove, sunk_near, FIRM, HUMP, 10)


class Sunk(FaceCase):
    def is_near(self, form, other, many):
        """Whether the word changes between what is told and the next whole number."""
        told = sunk_near(form, other, many)
        self.assertEqual([type(told), type(told[0]), type(told[1])], [tuple, int, bool])
        here = told_word(less_by(form, other, Fraction(told[0], many)))
        self.assertEqual(here, "from" if told[1] else "above")
        self.assertEqual(told_word(less_by(form, other, Fraction(told[0] + 1, many))), "below")

    def test_many_forms(self):
        chance = Random(60)
        for form in many_forms(61, 3):
            other = above_form(chance, len(form))
            for many in (1, 7, 1000):
                with self.subTest(form=form, other=other, many=many):
                    self.is_near(form, other, many)

    def test_other_forms_with_numbers_below_nought(self):
        chance = Random(62)
        other = form_of([[2, -1, 0], [-1, 2, -1], [0, -1, 2]])
        for _ in range(20):
            self.is_near(any_form(chance, 3, SMALL), other, chance.choice([1, 3, 10 ** 6]))

    def test_a_form_built_so_that_the_number_is_known(self):
        chance = Random(63)
        for many in range(1, 7):
            for known in (0, 1, -1, Fraction(7, 3), Fraction(-7, 3), Fraction(1, 10 ** 6), Fraction(-1, 10 ** 200),
                          10 ** 200, -10 ** 300, Fraction(10 ** 300, 7)):
                other = above_form(chance, many)
                form = less_by(form_of(with_zero(chance, [1] * many)), other, -known)
                for parts in (1, 3, 10 ** 6):
                    with self.subTest(many=many, known=known, parts=parts):
                        told = (floor(known * parts), (known * parts) == floor(known * parts))
                        self.assertEqual(sunk_near(form, other, parts), told)

    def test_just_a_number_and_a_little_less_or_more(self):
        tiny = Fraction(1, 10 ** 300)
        for known, told in [(3, (3, True)), (3 + tiny, (3, False)), (3 - tiny, (2, False)), (0, (0, True)),
                            (tiny, (0, False)), (-tiny, (-1, False)), (-3, (-3, True)), (-3 + tiny, (-3, False)),
                            (-3 - tiny, (-4, False))]:
            with self.subTest(told):
                self.assertEqual(sunk_near(form_of([[known]]), ((ONE,),), 1), told)
                self.assertEqual(sunk_near(less_by(HUMP, FIRM, -known), FIRM, 1), told)

    def test_numbers_that_are_no_fractions(self):
        # The roots of 1 - 3 t + t t and of - 1 + t + t t, both with rows above 0.
        self.assertEqual(sunk_near(form_of([[1, -1], [-1, 2]]), ALONE, 10 ** 6), (381966, False))
        self.assertEqual(sunk_near(form_of([[0, -1], [-1, -1]]), ALONE, 10 ** 6), (-1618034, False))
        self.assertEqual(sunk_near(form_of([[0, -1], [-1, -1]]), ALONE, 1), (-2, False))

    def test_by_ones_it_is_the_least_worth(self):
        for form in many_forms(64, 2):
            ones = ((ONE,) * len(form),) * len(form)
            low = number(least_worth(form))
            for many in (1, 4, 10 ** 6):
                self.assertEqual(sunk_near(form, ones, many), (floor(low * many), low * many == floor(low * many)))

    def test_a_form_by_itself(self):
        chance = Random(65)
        for many in range(1, 7):
            form = above_form(chance, many)
            for parts in (1, 9, 10 ** 6):
                self.assertEqual(sunk_near(form, form, parts), (parts, True))
                self.assertEqual(sunk_near(less_by(form, form, 2), form, parts), (-parts, True))
                self.assertEqual(sunk_near(((NIL,) * many,) * many, form, parts), (0, True))

    def test_great_and_small_numbers(self):
        chance = Random(66)
        for many in (1, 2, 3):
            form = any_form(chance, many, [great_number(chance) for _ in range(9)])
            other = any_form(chance, many, [abs(great_number(chance)) for _ in range(9)])
            self.is_near(form, other, 10 ** 6)
        great, small = ((10 ** 399, 1),), ((1, 10 ** 399),)
        self.assertEqual(sunk_near((great,), (small,), 1), (10 ** 798, True))
        self.assertEqual(sunk_near((small,), (great,), 10 ** 6), (0, False))
        self.assertEqual(sunk_near((((-1, 10 ** 399),),), (great,), 10 ** 6), (-1, False))

    def test_other_forms_that_are_just_above(self):
        chance = Random(67)
        for many in (2, 3, 4):
            rows = with_zero(chance, [1] * many)
            rows[0][0] += Fraction(1, 10 ** 100)
            for form in (any_form(chance, many, SMALL), any_form(chance, many, SMALL)):
                self.is_near(form, form_of(rows), 1000)

    def test_not_above(self):
        for other in (HUMP, CROSS, DIP, FLAT, form_of([[-1, 9], [9, 9]])):
            with self.subTest(other):
                for form in (FIRM, DIP, other):
                    self.told_bare(NotAbove, sunk_near, form, other, 10)
        self.told_bare(NotAbove, sunk_near, SINGLE, ((NIL,),), 10)
        self.told_bare(NotAbove, sunk_near, SINGLE, ((LESS,),), 10)

    def test_what_is_returned_may_be_passed(self):
        chance = Random(68)
        form = any_form(chance, 2, [great_number(chance) for _ in range(3)])
        low = least_worth(form)
        self.assertEqual(sunk_near(((low,),), ((ONE,),), 1)[0], low[0] // low[1])

    def test_by_name(self):
        self.assertEqual(sunk_near(many=4, other=FIRM, form=DIP), (-2, False))
        self.assertEqual(sunk_near(FIRM, many=10, other=ONES), (15, True))

    def test_the_bounds_of_many(self):
        self.assertEqual(sunk_near(SINGLE, ((ONE,),), 1), (1, False))
        self.assertEqual(sunk_near(SINGLE, ((ONE,),), 10 ** 6), (1666666, False))
        self.assertEqual(sunk_near(SINGLE, ((ONE,),), 999999), (1666665, True))


class Errors(FaceCase):
    def test_form(self):
        for value in NO_FORMS + [form_with((0, 1), value) for value in NO_FRACTIONS]:
            with self.subTest(value):
                self.told(InvalidForm, "given", value, sunk_near, value, FIRM, 10)
                self.told(InvalidForm, "given", value, sunk_near, FIRM, value, 10)

    def test_other_of_another_size(self):
        for many in range(1, 7):
            form = ((ONE,) * many,) * many
            for size in range(1, 7):
                other = ((ONE,) * size,) * size
                if many != size:
                    self.told(InvalidForm, "given", other, sunk_near, form, other, 10)

    def test_many(self):
        for value in NO_NUMBERS:
            with self.subTest(value):
                self.told(InvalidNumber, "given", value, sunk_near, FIRM, FIRM, value)

    def test_the_first_wrong_argument_is_told(self):
        bad, worse = [FIRM], 0
        self.told(InvalidForm, "given", bad, sunk_near, bad, worse, worse)
        self.told(InvalidForm, "given", worse, sunk_near, FIRM, worse, worse)
        self.told(InvalidForm, "given", SINGLE, sunk_near, FIRM, SINGLE, 0)
        self.told(InvalidForm, "given", bad, sunk_near, many=0, other=SINGLE, form=bad)
        self.told(InvalidForm, "given", DIP, sunk_near, SINGLE, DIP, 10)

    def test_not_above_is_told_last(self):
        self.told(InvalidNumber, "given", 0, sunk_near, FIRM, HUMP, 0)
        self.told(InvalidNumber, "given", True, sunk_near, many=True, form=FIRM, other=DIP)
        self.told_bare(NotAbove, sunk_near, many=1, form=FIRM, other=DIP)

    def test_no_argument_is_changed(self):
        for value in [[[ONE, ONE], [ONE, ONE]], {0: [ONE]}, [[]]]:
            kept = deepcopy(value)
            self.told(InvalidForm, "given", value, sunk_near, value, FIRM, 1)
            self.told(InvalidForm, "given", value, sunk_near, FIRM, value, 1)
            self.told(InvalidNumber, "given", value, sunk_near, FIRM, FIRM, value)
            self.assertEqual(value, kept)

    def test_equal_calls_have_equal_results(self):
        again = form_of(table(DIP))
        self.assertEqual(sunk_near(DIP, FIRM, 7), sunk_near(again, form_of(table(FIRM)), 7))
        self.assertEqual(sunk_near(((TWO,),), ((HALF,),), 1), (4, True))

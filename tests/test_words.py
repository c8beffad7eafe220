from copy import deepcopy
from fractions import Fraction
from random import Random

from everyface.errors import InvalidForm, InvalidRow
from everyface.forms import is_form, led, part_of, worth
from everyface.shares import least_corners
from everyface.words import is_plus, is_zero, low_row, rising_rows, word_of
from tests.samples import (
    CROSS, DIP, FIRM, FLAT, FaceCase, HALF, HORN, HUMP, LESS, NIL, NO_FORMS, NO_FRACTIONS, ONE, OTHER_SORTS,
    SINGLE, TWO, any_form, form_of, form_with, great_number, led_to, lots_of, many_forms, more_at, number, numbers,
    pair, pairs, product_of, shares_by, table, told_word, with_zero,
)

SIX_FLAT = ((NIL,) * 6,) * 6
WITH_FORM_ALONE = (word_of, low_row, rising_rows, is_plus)
KNOWN = [(HUMP, "from"), (CROSS, "from"), (FIRM, "above"), (DIP, "below"), (FLAT, "from"), (SINGLE, "above"),
         (HORN, "from"), (SIX_FLAT, "from"), (((NIL,),), "from"), (((LESS,),), "below")]


def some_shares(many):
    """Some rows from 0 on, other than noughts, with and without places that are 0."""
    return [row for parts in range(1, 4) for row in shares_by(many, parts)]


def zero_of(chance, many):
    zero = [chance.choice([0, 1, 1, 2, Fraction(1, 3)]) for _ in range(many)]
    return zero if any(zero) else [1] * many


class Examples(FaceCase):
    def test_the_document(self):
        self.assertEqual(
            [word_of(HUMP), word_of(FIRM), word_of(DIP), low_row(HUMP), worth(DIP, low_row(DIP))[0] < 0,
             rising_rows(DIP)],
            ["from", "above", "below", None, True, None])
        self.assertEqual(
            [rising_rows(HUMP), is_zero(HUMP, (TWO, TWO)), is_zero(CROSS, (NIL, NIL)), is_plus(HUMP), is_plus(CROSS),
             is_plus(FIRM), is_plus(DIP)],
            [(((1, 1), (0, 1)), ((1, 2), (1, 2)), ((0, 1), (1, 1))), True, False, True, False, True, False])


class Words(FaceCase):
    def test_known_forms(self):
        for form, word in KNOWN:
            with self.subTest(form):
                self.assertEqual(word_of(form), word)

    def test_one_row(self):
        for value in [(1, 10 ** 399), (10 ** 399, 1), HALF, (10 ** 399, 10 ** 399 - 1)]:
            self.assertEqual(word_of(((value,),)), "above")
            self.assertEqual(word_of((((-value[0], value[1]),),)), "below")

    def test_many_forms(self):
        seen = set()
        for form in many_forms(40, 6):
            with self.subTest(form):
                word = told_word(form)
                self.assertEqual(word_of(form), word)
                seen.add((word, len(form)))
        self.assertEqual(len(seen), 18)

    def test_no_shares_by_parts_break_what_is_told(self):
        for form in many_forms(41, 2) + [HORN]:
            word, rows = word_of(form), table(form)
            worths = [product_of(rows, numbers(row), numbers(row))
                      for parts in range(1, 6) for row in shares_by(len(form), parts)]
            with self.subTest(form):
                if word == "above":
                    self.assertGreater(min(worths), 0)
                elif word == "from":
                    self.assertGreaterEqual(min(worths), 0)

    def test_a_little_more_or_less_at_one_place(self):
        chance = Random(42)
        for many in range(1, 7):
            for tiny in (Fraction(1, 7), Fraction(1, 10 ** 9), Fraction(1, 10 ** 390)):
                zero = zero_of(chance, many)
                rows = with_zero(chance, zero)
                self.assertEqual(word_of(form_of(rows)), "from")
                i, j = chance.randrange(many), chance.randrange(many)
                with self.subTest(rows=rows, i=i, j=j):
                    if zero[i] and zero[j]:
                        self.assertEqual(word_of(more_at(rows, i, j, tiny)), "above")
                        self.assertEqual(word_of(more_at(rows, i, j, -tiny)), "below")
                    else:
                        self.assertEqual(word_of(more_at(rows, i, j, tiny)), "from")

    def test_each_number_of_horn_is_needed(self):
        for i in range(5):
            for j in range(5):
                with self.subTest((i, j)):
                    self.assertEqual(word_of(more_at(table(HORN), i, j, Fraction(-1, 10 ** 6))), "below")
                    self.assertEqual(word_of(more_at(table(HORN), i, j, Fraction(1, 10 ** 6))), "from")

    def test_great_numbers(self):
        chance = Random(43)
        for many in (1, 2, 3):
            for _ in range(3):
                form = any_form(chance, many, [great_number(chance) for _ in range(9)])
                self.assertEqual(word_of(form), told_word(form))
        great = (10 ** 399, 1)
        self.assertEqual(word_of(((great, (1 - 10 ** 399, 1)), ((1 - 10 ** 399, 1), great))), "above")
        self.assertEqual(word_of(((great, (-10 ** 399, 1)), ((-10 ** 399, 1), great))), "from")
        self.assertEqual(word_of(((great, (-1 - 10 ** 399, 1)), ((-1 - 10 ** 399, 1), great))), "below")


class LowRows(FaceCase):
    def test_shares_of_a_worth_below_nought_just_if_the_word_is_below(self):
        for form in many_forms(44, 6) + [form for form, _ in KNOWN]:
            row = low_row(form)
            with self.subTest(form):
                self.assertEqual(row is None, told_word(form) != "below")
                if row is not None:
                    self.are_shares(row, len(form))
                    self.assertLess(number(worth(form, row)), 0)

    def test_tiny_worths(self):
        rows = with_zero(Random(45), [1, 2, 3, 4, 5, 6])
        form = more_at(rows, 2, 4, Fraction(-1, 10 ** 300))
        self.are_shares(low_row(form), 6)
        self.assertLess(worth(form, low_row(form))[0], 0)
        self.assertIsNone(low_row(form_of(rows)))


class RisingRows(FaceCase):
    def are_rising(self, form, strictly):
        told = rising_rows(form)
        lots = lots_of(len(form))
        self.assertIs(type(told), tuple)
        self.assertEqual(len(told), len(lots))
        for lot, row in zip(lots, told):
            self.are_shares(row, len(form))
            self.assertEqual([at for at, value in enumerate(row) if value != NIL and at not in lot], [])
            there = led_to(table(part_of(form, lot)), [number(row[at]) for at in lot])
            if strictly:
                self.assertGreater(min(there), 0)
            else:
                self.assertGreaterEqual(min(there), 0)

    def test_one_for_each_lot_in_the_order_of_tuples(self):
        for form in many_forms(46, 6) + [form for form, _ in KNOWN]:
            with self.subTest(form):
                word = told_word(form)
                if word == "below":
                    self.assertIsNone(rising_rows(form))
                else:
                    self.are_rising(form, word == "above")

    def test_a_little_above_nought(self):
        chance = Random(47)
        for many in range(1, 7):
            rows = with_zero(chance, [1] * many)
            self.are_rising(form_of(rows), False)
            self.are_rising(more_at(rows, 0, many - 1, Fraction(1, 10 ** 200)), True)
            self.assertIsNone(rising_rows(more_at(rows, 0, many - 1, Fraction(-1, 10 ** 200))))

    def test_rows_that_no_others_can_stand_for(self):
        self.assertEqual(rising_rows(((NIL,),)), ((ONE,),))
        self.assertEqual(rising_rows(HORN)[0], (ONE, NIL, NIL, NIL, NIL))
        self.assertEqual(rising_rows(HORN)[1], (HALF, HALF, NIL, NIL, NIL))
        self.assertEqual(len(rising_rows(SIX_FLAT)), 63)

    def test_great_numbers(self):
        chance = Random(48)
        for many in (1, 2, 3):
            form = any_form(chance, many, [abs(great_number(chance)) for _ in range(9)])
            self.are_rising(form, True)


class Zeros(FaceCase):
    def test_zeros_of_a_form_of_one_zero(self):
        chance = Random(49)
        for many in range(1, 7):
            zero = [1] * many if many < 3 else [0] + [chance.randrange(1, 4) for _ in range(many - 1)]
            form = form_of(with_zero(chance, zero))
            for times in (1, Fraction(1, 10 ** 300), Fraction(7, 3), 10 ** 300):
                self.assertIs(is_zero(form, pairs([value * times for value in zero])), True)
            self.assertIs(is_zero(form, (NIL,) * many), False)
            self.assertIs(is_zero(form, pairs([-value for value in zero])), False)
            for at in range(many):
                for tiny in (Fraction(1, 10 ** 30), -Fraction(1, 10 ** 30)):
                    other = list(zero)
                    other[at] += tiny
                    self.assertIs(is_zero(form, pairs(other)), many == 1)

    def test_whatever_the_word_is(self):
        below = form_of([[1, -2], [-2, 3]])
        self.assertEqual(word_of(below), "below")
        self.assertIs(is_zero(below, (ONE, ONE)), True)
        self.assertIs(is_zero(below, (TWO, TWO)), True)
        self.assertIs(is_zero(below, ((3, 1), ONE)), True)
        self.assertIs(is_zero(below, (TWO, ONE)), False)
        self.assertIs(is_zero(below, (LESS, LESS)), False)
        self.assertIs(is_zero(FIRM, (ONE, ONE)), False)
        self.assertIs(is_zero(FIRM, (NIL, NIL)), False)

    def test_rows_with_a_number_below_nought(self):
        self.assertIs(is_zero(HUMP, (LESS, LESS)), False)
        self.assertIs(is_zero(FLAT, (LESS, ONE)), False)
        self.assertIs(is_zero(FLAT, (ONE, (-1, 10 ** 399))), False)
        self.assertIs(is_zero(FLAT, (ONE, NIL)), True)
        self.assertIs(is_zero(FLAT, (NIL, NIL)), False)
        self.assertIs(is_zero(((NIL,),), (LESS,)), False)
        self.assertIs(is_zero(((NIL,),), (ONE,)), True)
        self.assertIs(is_zero(((NIL,),), (NIL,)), False)

    def test_each_zero_is_led_to_a_row_from_nought_on_if_the_word_is_from(self):
        count = 0
        for form in many_forms(50, 4) + [HORN]:
            if word_of(form) == "from":
                for row in some_shares(len(form)):
                    told = is_zero(form, row)
                    self.assertIs(told, worth(form, row) == NIL)
                    if told:
                        self.assertGreaterEqual(min(numbers(led(form, row))), 0)
                        count += 1
        self.assertGreater(count, 50)

    def test_corners_are_zeros_if_the_word_is_from(self):
        for form in many_forms(51, 4):
            for row in least_corners(form):
                self.assertIs(is_zero(form, row), word_of(form) == "from")

    def test_what_is_returned_may_be_passed(self):
        chance = Random(52)
        form = any_form(chance, 3, [abs(great_number(chance)) for _ in range(9)])
        for row in rising_rows(form):
            self.assertIs(is_zero(form, row), False)


class Plus(FaceCase):
    def test_each_word(self):
        self.assertEqual([is_plus(form) for form, _ in KNOWN],
                         [True, False, True, False, True, True, False, True, True, False])

    def test_sums_of_squares_are_plus(self):
        chance = Random(53)
        for many in range(1, 7):
            rows = with_zero(chance, zero_of(chance, many))
            self.assertIs(is_plus(form_of(rows)), True)

    def test_forms_that_are_not_below_but_not_plus(self):
        self.assertIs(is_plus(form_of([[0, 1, 0], [1, 5, 0], [0, 0, 0]])), False)
        self.assertIs(is_plus(form_of([[1, -1, 0], [-1, 1, "1/9"], [0, "1/9", 2]])), False)
        self.assertIs(is_plus(form_of([[1, -1, 0], [-1, 1, 0], [0, 0, 2]])), True)

    def test_a_little_more_beside_a_zero(self):
        chance = Random(54)
        for many in range(2, 7):
            zero = [1] * (many - 1) + [0]
            rows = with_zero(chance, zero)
            self.assertIs(is_plus(form_of(rows)), True)
            more = more_at(rows, 0, many - 1, Fraction(1, 10 ** 300))
            self.assertEqual(word_of(more), "from")
            self.assertIs(is_plus(more), False)

    def test_the_words_of_the_document_for_many_forms(self):
        seen = set()
        for form in many_forms(55, 5):
            word = word_of(form)
            led_away = [row for row in some_shares(len(form)) + list(least_corners(form))
                        if is_zero(form, row) and led(form, row) != (NIL,) * len(form)]
            with self.subTest(form):
                self.assertIs(is_plus(form), word == "above" or (word == "from" and not led_away))
                seen.add((word, bool(led_away)))
        self.assertGreaterEqual(len(seen), 5)


class Errors(FaceCase):
    def test_form(self):
        for value in NO_FORMS + [form_with((0, 1), value) for value in NO_FRACTIONS]:
            with self.subTest(value):
                for function in WITH_FORM_ALONE:
                    self.told(InvalidForm, "given", value, function, value)
                    self.told(InvalidForm, "given", value, function, form=value)
                self.told(InvalidForm, "given", value, is_zero, value, (ONE, ONE))

    def test_no_row(self):
        for value in OTHER_SORTS + [0, (), (ONE,), (ONE, ONE, ONE), [ONE, ONE], {0: ONE, 1: ONE}, "ab", (NIL,) * 7]:
            with self.subTest(value):
                self.told(InvalidRow, "index", None, is_zero, HUMP, value)

    def test_the_first_that_is_no_fraction(self):
        for value in NO_FRACTIONS:
            for at in range(6):
                with self.subTest(value=value, at=at):
                    self.told(InvalidRow, "index", at, is_zero, SIX_FLAT, (LESS,) * at + (value,) * (6 - at))

    def test_the_first_wrong_argument_is_told(self):
        bad = [HUMP]
        self.told(InvalidForm, "given", bad, is_zero, bad, None)
        self.told(InvalidForm, "given", bad, is_zero, row=None, form=bad)
        self.told(InvalidRow, "index", 1, is_zero, row=(ONE, 1), form=HUMP)


class Kinds(FaceCase):
    def test_by_name(self):
        self.assertEqual(word_of(form=DIP), "below")
        self.assertEqual(low_row(form=DIP), low_row(DIP))
        self.assertEqual(rising_rows(form=FIRM), rising_rows(FIRM))
        self.assertIs(is_zero(row=(ONE, ONE), form=HUMP), True)
        self.assertIs(is_plus(form=CROSS), False)

    def test_words_and_answers_are_of_plain_kinds(self):
        for form in many_forms(56, 1):
            self.assertIs(type(word_of(form)), str)
            self.assertIs(type(is_plus(form)), bool)
            self.assertIs(type(is_zero(form, (ONE,) * len(form))), bool)

    def test_equal_calls_have_equal_results(self):
        for form in many_forms(57, 1):
            again = form_of(table(form))
            for function in WITH_FORM_ALONE:
                self.assertEqual(function(form), function(again))
                self.assertEqual(function(form), function(form))

    def test_no_argument_is_changed(self):
        for value in [[[ONE, ONE], [ONE, ONE]], {0: [ONE], 1: {}}, [[], [[]]]]:
            kept = deepcopy(value)
            for function in WITH_FORM_ALONE:
                self.told(InvalidForm, "given", value, function, value)
            self.told(InvalidRow, "index", 1, is_zero, HUMP, (ONE, value))
            self.told(InvalidRow, "index", None, is_zero, HUMP, value)
            self.assertEqual(value, kept)

    def test_worths_and_words_of_one_row(self):
        for form in many_forms(58, 2):
            low = pair(min([number(worth(form, row)) for row in least_corners(form)]))
            self.assertTrue(is_form(((low,),)))
            self.assertEqual(word_of(((low,),)), word_of(form))

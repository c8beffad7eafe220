from random import Random
from unittest import TestCase

from everyface.exact import (
    any_solution, both_ways, free_solutions, is_fraction, lot_of, lots_of_size, lowest, only_solution, opposite_rows,
    turned,
    unit,
)
from tests.samples import (
    HALF, LESS, NIL, NO_FRACTIONS, ONE, TWO, form_of, lots_of, numbers, pairs, solutions, some_rows, table, times_row,
)


class Equations(TestCase):
    def test_just_one_solution(self):
        self.assertEqual(only_solution(((NIL, TWO), (ONE, ONE)), (ONE, ONE)), (HALF, HALF))

    def test_more_than_one_or_none(self):
        alike = ((ONE, ONE), (ONE, ONE))
        self.assertIsNone(only_solution(alike, (ONE, ONE)))
        self.assertIsNone(only_solution(alike, (ONE, TWO)))
        self.assertIsNone(only_solution(((NIL, ONE), (NIL, TWO)), (ONE, ONE)))

    def test_other_numbers_of_equations_than_of_unknowns(self):
        self.assertEqual(only_solution(((TWO,), (ONE,)), (ONE, HALF)), (HALF,))
        self.assertIsNone(only_solution(((TWO,), (ONE,)), (ONE, ONE)))
        self.assertIsNone(only_solution(((NIL,), (NIL,)), (NIL, NIL)))
        self.assertIsNone(only_solution(((ONE, ONE),), (ONE,)))
        chance = Random(31)
        seen = set()
        for _ in range(400):
            many, size = chance.randrange(1, 5), chance.randrange(1, 7)
            rows = form_of([[chance.choice([-1, 0, 0, 1, "1/2"]) for _ in range(many)] for _ in range(size)])
            sides = pairs([chance.choice([-1, 0, 0, 1]) for _ in range(size)])
            told = solutions(table(rows), numbers(sides))
            just_one = told is not None and told[1] == 0
            with self.subTest(rows=rows, sides=sides):
                self.assertEqual(only_solution(rows, sides), pairs(told[0]) if just_one else None)
            seen.add((just_one, size > many))
        self.assertGreaterEqual(len(seen), 3)

    def test_any_solution(self):
        chance = Random(33)
        seen = set()
        for _ in range(400):
            many, size = chance.randrange(1, 5), chance.randrange(1, 7)
            rows = some_rows(chance, many, size, [-1, 0, 1, 2])
            sides = [chance.choice([-1, 0, 0, 1]) for _ in range(size)]
            told = any_solution(form_of(rows), pairs(sides))
            known = solutions(rows, sides)
            with self.subTest(rows=rows, sides=sides):
                self.assertEqual(told is None, known is None)
                if told is not None:
                    self.assertEqual(len(told), many)
                    self.assertEqual([times_row(row, numbers(told)) for row in rows], sides)
            seen.add((known is None, known is not None and known[1] > 0))
        self.assertEqual(len(seen), 3)

    def test_equations_without_unknowns(self):
        self.assertEqual(any_solution(((), ()), (NIL, NIL)), ())
        self.assertEqual(only_solution(((), ()), (NIL, NIL)), ())
        self.assertIsNone(any_solution(((), ()), (NIL, ONE)))
        self.assertIsNone(only_solution(((), ()), (NIL, ONE)))

    def test_free_solutions(self):
        chance = Random(32)
        for _ in range(300):
            many, size = chance.randrange(1, 4), chance.randrange(7)
            rows = some_rows(chance, many, size, [-1, 0, 1, 2])
            told = free_solutions(form_of(rows), many)
            with self.subTest(rows=rows):
                self.assertEqual(len(told), solutions(rows, [0] * size)[1] if rows else many)
                self.assertTrue(all([times_row(row, numbers(found)) == 0 for row in rows for found in told]))
                # They are free: no sum of multiples but that of noughts is noughts.
                if told:
                    columns = [list(column) for column in zip(*[numbers(found) for found in told])]
                    self.assertEqual(solutions(columns, [0] * many)[1], 0)
                self.assertEqual(free_solutions(form_of(rows[::-1] + rows), many), told)

    def test_many_equations(self):
        chance = Random(30)
        seen = set()
        for _ in range(400):
            many = chance.randrange(1, 5)
            rows = form_of([[chance.choice([-1, 0, 0, 1, "1/2"]) for _ in range(many)] for _ in range(many)])
            sides = pairs([chance.choice([-1, 0, 1]) for _ in range(many)])
            told = solutions(table(rows), numbers(sides))
            just_one = told is not None and told[1] == 0
            with self.subTest(rows=rows, sides=sides):
                self.assertEqual(only_solution(rows, sides), pairs(told[0]) if just_one else None)
            seen.add(None if told is None else told[1])
        self.assertGreaterEqual(len(seen), 3)


class Lots(TestCase):
    def test_lots_of_a_size(self):
        for many in range(7):
            for size in range(-1, 8):
                told = [lot for lot in [()] + lots_of(many) if len(lot) == size]
                self.assertEqual(lots_of_size(many, size), told)


    def test_the_lot_of_a_row(self):
        self.assertEqual(lot_of((NIL, HALF, LESS, NIL)), (1, 2))
        self.assertEqual(lot_of((NIL, NIL)), ())


class Tables(TestCase):
    def test_turned_over(self):
        given = ((NIL, ONE), (TWO, HALF))
        self.assertEqual(turned(given), ((NIL, TWO), (ONE, HALF)))
        self.assertEqual(both_ways(given), ((NIL, (3, 1)), ((3, 1), ONE)))
        self.assertEqual(opposite_rows(given), ((NIL, LESS), ((-2, 1), (-1, 2))))

    def test_unit_rows(self):
        self.assertEqual([unit(at, 3) for at in range(3)], [(ONE, NIL, NIL), (NIL, ONE, NIL), (NIL, NIL, ONE)])


class Fractions(TestCase):
    def test_lowest_terms(self):
        told = {(2, 4): HALF, (-2, -4): HALF, (1, -1): LESS, (0, 5): NIL, (0, -5): NIL, (6, 3): TWO}
        for given, value in told.items():
            self.assertEqual(lowest(*given), value)

    def test_fractions_and_other_values(self):
        for value in [NIL, ONE, LESS, HALF, (-7, 3), (10 ** 399, 10 ** 399 + 1)]:
            self.assertIs(is_fraction(value), True)
        for value in NO_FRACTIONS:
            with self.subTest(value):
                self.assertIs(is_fraction(value), False)

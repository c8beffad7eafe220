from random import Random
from unittest import TestCase

from everyface.exact import free_solutions, is_fraction, lots_of_size, lowest, only_solution
from tests.samples import (
    HALF, LESS, NIL, NO_FRACTIONS, ONE, TWO, form_of, lots_of, numbers, pairs, solutions, some_rows, table, times_row,
)


class Equations(TestCase):
    def test_just_one_solution(self):
        self.assertEqual(only_solution(((NIL, TWO), (ONE, ONE)), (ONE, ONE)), (HALF, HALF))

    def test_more_than_one_or_none(self):
        alike = ((ONE, ONE), (ONE, ONE))
        self.assertIsNone(only_solution(alike, (ONE, ONE)))
        self.assertIsNone(only_solution(alike, (ONE, TWO)))
        self.assertIsNone(only_solution(((NIL, ONE), (NIL, TWO)), (ONE, ONE)))

    def test_other_numbers_of_equations_than_of_unknowns(self):
        self.assertEqual(only_solution(((TWO,), (ONE,)), (ONE, HALF)), (HALF,))
        self.assertIsNone(only_solution(((TWO,), (ONE,)), (ONE, ONE)))
        self.assertIsNone(only_solution(((NIL,), (NIL,)), (NIL, NIL)))
        self.assertIsNone(only_solution(((ONE, ONE),), (ONE,)))
        chance = Random(31)
        seen = set()
        for _ in range(400):
            many, size = chance.randrange(1, 5), chance.randrange(1, 7)
            rows = form_of([[chance.choice([-1, 0, 0, 1, "1/2"]) for _ in range(many)] for _ in range(size)])
            sides = pairs([chance.choice([-1, 0, 0, 1]) for _ in range(size)])
            told = solutions(table(rows), numbers(sides))
            just_one = told is not None and told[1] == 0
            with self.subTest(rows=rows, sides=sides):
                self.assertEqual(only_solution(rows, sides), pairs(told[0]) if just_one else None)
            seen.add((just_one, size > many))
        self.assertGreaterEqual(len(seen), 3)

    def test_free_solutions(self):
        chance = Random(32)
        for _ in range(300):
            many, size = chance.randrange(1, 4), chance.randrange(7)
            rows = some_rows(chance, many, size, [-1, 0, 1, 2])
            told = free_solutions(form_of(rows), many)
            with self.subTest(rows=rows):
                self.assertEqual(len(told), solutions(rows, [0] * size)[1] if rows else many)
                self.assertTrue(all([times_row(row, numbers(found)) == 0 for row in rows for found in told]))
                # They are free: no sum of multiples but that of noughts is noughts.
                if told:
                    columns = [list(column) for column in zip(*[numbers(found) for found in told])]
                    self.assertEqual(solutions(columns, [0] * many)[1], 0)
                self.assertEqual(free_solutions(form_of(rows[::-1] + rows), many), told)

    def test_many_equations(self):
        chance = Random(30)
        seen = set()
        for _ in range(400):
            many = chance.randrange(1, 5)
            rows = form_of([[chance.choice([-1, 0, 0, 1, "1/2"]) for _ in range(many)] for _ in range(many)])
            sides = pairs([chance.choice([-1, 0, 1]) for _ in range(many)])
            told = solutions(table(rows), numbers(sides))
            just_one = told is not None and told[1] == 0
            with self.subTest(rows=rows, sides=sides):
                self.assertEqual(only_solution(rows, sides), pairs(told[0]) if just_one else None)
            seen.add(None if told is None else told[1])
        self.assertGreaterEqual(len(seen), 3)


class Lots(TestCase):
    def test_lots_of_a_size(self):
        for many in range(7):
            for size in range(-1, 8):
                told = [lot for lot in [()] + lots_of(many) if len(lot) == size]
                self.assertEqual(lots_of_size(many, size), told)


class Fractions(TestCase):
    def test_lowest_terms(self):
        told = {(2, 4): HALF, (-2, -4): HALF, (1, -1): LESS, (0, 5): NIL, (0, -5): NIL, (6, 3): TWO}
        for given, value in told.items():
            self.assertEqual(lowest(*given), value)

    def test_fractions_and_other_values(self):
        for value in [NIL, ONE, LESS, HALF, (-7, 3), (10 ** 399, 10 ** 399 + 1)]:
            self.assertIs(is_fraction(value), True)
        for value in NO_FRACTIONS:
            with self.subTest(value):
                self.assertIs(is_fraction(value), False)

from random import Random
from unittest import TestCase

from everyface.exact import is_fraction, lowest, only_solution
from tests.samples import HALF, LESS, NIL, NO_FRACTIONS, ONE, TWO, form_of, numbers, pairs, solutions, table


class Equations(TestCase):
    def test_just_one_solution(self):
        self.assertEqual(only_solution(((NIL, TWO), (ONE, ONE)), (ONE, ONE)), (HALF, HALF))

    def test_more_than_one_or_none(self):
        alike = ((ONE, ONE), (ONE, ONE))
        self.assertIsNone(only_solution(alike, (ONE, ONE)))
        self.assertIsNone(only_solution(alike, (ONE, TWO)))
        self.assertIsNone(only_solution(((NIL, ONE), (NIL, TWO)), (ONE, ONE)))

    def test_many_equations(self):
        chance = Random(30)
        seen = set()
        for _ in range(400):
            many = chance.randrange(1, 5)
            rows = form_of([[chance.choice([-1, 0, 0, 1, "1/2"]) for _ in range(many)] for _ in range(many)])
            sides = pairs([chance.choice([-1, 0, 1]) for _ in range(many)])
            told = solutions(table(rows), numbers(sides))
            just_one = told is not None and told[1] == 0
            with self.subTest(rows=rows, sides=sides):
                self.assertEqual(only_solution(rows, sides), pairs(told[0]) if just_one else None)
            seen.add(None if told is None else told[1])
        self.assertGreaterEqual(len(seen), 3)


class Fractions(TestCase):
    def test_lowest_terms(self):
        told = {(2, 4): HALF, (-2, -4): HALF, (1, -1): LESS, (0, 5): NIL, (0, -5): NIL, (6, 3): TWO}
        for given, value in told.items():
            self.assertEqual(lowest(*given), value)

    def test_fractions_and_other_values(self):
        for value in [NIL, ONE, LESS, HALF, (-7, 3), (10 ** 399, 10 ** 399 + 1)]:
            self.assertIs(is_fraction(value), True)
        for value in NO_FRACTIONS:
            with self.subTest(value):
                self.assertIs(is_fraction(value), False)

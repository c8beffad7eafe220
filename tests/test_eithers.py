from copy import deepcopy
from fractions import Fraction
from random import Random

from everyface.eithers import any_answer, barring_row, corner_answers, either_of, form_of, is_answer, met_by
from everyface.errors import InvalidGame, InvalidRow
from everyface.forms import is_form
from everyface.mixes import even_corners, is_even
from everyface.words import is_plus, word_of
from tests.mix_samples import (
    DOVE, MEET, NO_GAMES, ROCK, SOLE, lot_by_hand, some_game, some_games, some_mix,
)
from tests.samples import (
    CROSS, FIRM, FLAT, FaceCase, HALF, HORN, HUMP, LESS, NIL, NO_FRACTIONS, ONE, OTHER_SORTS, TWO, any_form,
    great_number,
    in_cone, led_to, lots_of, many_forms, number, numbers, pairs, solutions, squares, table, told_stand, units,
)
from tests.samples import form_of as pairs_of

OF_BOTH = (corner_answers, any_answer, met_by, barring_row)
TINY = Fraction(1, 10 ** 300)


def rest_by_hand(game, row, other):
    return [a + b for a, b in zip(led_to(table(game), numbers(other)), numbers(row))]


def answers_by_hand(game, row, other):
    rest = rest_by_hand(game, row, other)
    return min(rest + numbers(other)) >= 0 and not any([a * b for a, b in zip(rest, numbers(other))])


def lot_for(game, row, other):
    """The lot of an answer, and the places at which its rest is 0."""
    return lot_by_hand(other), [k for k, value in enumerate(rest_by_hand(game, row, other)) if value == 0]


def corner_by_hand(game, row, other):
    """Whether an answer is a corner, straight from the words of the document."""
    lot, places = lot_for(game, row, other)
    if not lot:
        return True
    if not places:
        return False
    return solutions([[table(game)[i][j] for j in lot] for i in places], [0] * len(places))[1] == 0


def corners_by_hand(game, row):
    """All corners: for each lot and each lot of places with a rest of 0 the only answer with both, if just one."""
    many = len(game)
    found = set()
    if min(numbers(row)) >= 0:
        found.add((NIL,) * many)
    for lot in lots_of(many):
        for places in lots_of(many):
            told = solutions([[table(game)[i][j] for j in lot] for i in places], [-numbers(row)[i] for i in places])
            if told is not None and told[1] == 0 and min(told[0]) > 0:
                other = pairs([told[0][lot.index(k)] if k in lot else 0 for k in range(many)])
                if answers_by_hand(game, row, other) and lot_for(game, row, other) == (list(lot), list(places)):
                    found.add(other)
    return tuple(sorted(found))


def some_row(chance, many):
    return pairs([chance.choice([-2, -1, -1, 0, 1, 1, Fraction(1, 2), Fraction(-1, 3)]) for _ in range(many)])


def some_tables(chance, rounds):
    """Tables, each with a row: any ones, and ones for which an answer is known."""
    found = []
    for game in some_games(chance, rounds):
        found.append((game, some_row(chance, len(game)), None))
        known = [chance.choice([0, 0, 1, 2, Fraction(1, 2)]) for _ in game]
        rest = [0 if value else chance.choice([0, 0, 1, 3]) for value in known]
        row = [a - b for a, b in zip(rest, led_to(table(game), known))]
        found.append((game, pairs(row), pairs(known)))
    return found


class Examples(FaceCase):
    def test_the_document(self):
        self.assertEqual(
            [corner_answers(FIRM, (LESS, LESS)), any_answer(FIRM, (ONE, ONE)),
             is_answer(FIRM, (LESS, LESS), (HALF, NIL)),
             corner_answers(CROSS, (LESS, LESS)), form_of(((ONE, TWO), (NIL, ONE)))],
            [(((1, 3), (1, 3)),), ((0, 1), (0, 1)), False, (((1, 1), (1, 1)),), (((2, 1), (2, 1)), ((2, 1), (2, 1)))])
        self.assertEqual(
            [any_answer(CROSS, (LESS, ONE)), met_by(CROSS, (LESS, ONE)) is None, barring_row(CROSS, (LESS, ONE)),
             met_by(((LESS, NIL), (NIL, ONE)), (LESS, NIL)), either_of(DOVE),
             corner_answers(either_of(DOVE)[0], either_of(DOVE)[1])],
            [None, False, None, None, ((((4, 1), (1, 1)), ((3, 1), (2, 1))), ((-1, 1), (-1, 1))), (((1, 5), (1, 5)),)])


class Answers(FaceCase):
    def test_is_answer(self):
        chance = Random(280)
        seen = set()
        for game, row, known in some_tables(chance, 4):
            others = [some_row(chance, len(game)) for _ in range(3)] + ([known] if known else [])
            for other in others:
                told = is_answer(game, row, other)
                self.assertIs(told, answers_by_hand(game, row, other))
                seen.add((len(game), told))
        self.assertEqual(len(seen), 10)

    def test_rows_with_numbers_below_nought_and_rests_below_nought(self):
        self.assertIs(is_answer(((NIL,),), (NIL,), (LESS,)), False)
        self.assertIs(is_answer(((LESS,),), (LESS,), (LESS,)), False)
        self.assertIs(is_answer(FLAT, (NIL, NIL), ((-1, 10 ** 399), NIL)), False)
        self.assertIs(is_answer(FLAT, (NIL, NIL), ((1, 10 ** 399), NIL)), True)
        self.assertIs(is_answer(FLAT, ((-1, 10 ** 399), NIL), (NIL, NIL)), False)
        self.assertIs(is_answer(FLAT, ((1, 10 ** 399), NIL), (ONE, NIL)), False)
        self.assertIs(is_answer(FLAT, ((1, 10 ** 399), NIL), (NIL, ONE)), True)

    def test_corners(self):
        counts = set()
        for game, row, known in some_tables(Random(281), 3):
            with self.subTest(game=game, row=row):
                told = corner_answers(game, row)
                self.assertEqual(told, corners_by_hand(game, row))
                self.assertIs(type(told), tuple)
                for other in told:
                    self.is_row(other, len(game))
                    self.assertTrue(answers_by_hand(game, row, other))
                    self.assertTrue(corner_by_hand(game, row, other))
                counts.add((len(game), min(len(told), 3)))
        self.assertGreaterEqual(len(counts), 14)

    def test_any_answer(self):
        seen = set()
        for game, row, known in some_tables(Random(282), 4):
            with self.subTest(game=game, row=row):
                told = any_answer(game, row)
                if told is not None:
                    self.is_row(told, len(game))
                    self.assertTrue(answers_by_hand(game, row, told))
                self.assertEqual(told is None, corner_answers(game, row) == ())
                self.assertFalse(told is None and known is not None)
                seen.add((len(game), told is None))
        self.assertEqual(len(seen), 10)

    def test_each_answer_is_a_mix_of_corners_plus_a_row_along_which_it_can_go_for_ever(self):
        others = 0
        for game, row, known in some_tables(Random(283), 4):
            if known is not None:
                lot, places = lot_for(game, row, known)
                # Answers on this lot with a rest of 0 at these places, that go on for ever: by hand from their cone.
                fit = [numbers(corner) + [1] for corner in corner_answers(game, row)
                       if set(lot_for(game, row, corner)[0]) <= set(lot)
                       and set(lot_for(game, row, corner)[1]) >= set(places)]
                ways = self.ways_on(game, lot, places)
                self.assertTrue(in_cone(numbers(known) + [1], fit + ways), (game, row, known))
                others += known not in corner_answers(game, row)
        self.assertGreaterEqual(others, 20)

    def ways_on(self, game, lot, places):
        """Rows of the sum 1 along which answers on a lot, with rests of 0 at some places, go on: the ends of these."""
        many = len(game)
        rows = table(game)
        found = []
        for inner in [some for some in lots_of(many) if set(some) <= set(lot)]:
            for tight in [some for some in lots_of(many) if set(some) >= set(places)] + ([()] if not places else []):
                lines = [[rows[i][j] for j in inner] for i in tight] + [[1] * len(inner)]
                told = solutions(lines, [0] * len(tight) + [1])
                if told is not None and told[1] == 0 and min(told[0]) > 0:
                    row = [told[0][inner.index(k)] if k in inner else Fraction(0) for k in range(many)]
                    if min(led_to(rows, row)) >= 0:
                        found.append(row + [0])
        return found

    def test_none_one_many_and_half_lines(self):
        self.assertEqual(corner_answers(((LESS,),), (LESS,)), ())
        self.assertEqual(corner_answers(((NIL,),), (LESS,)), ())
        self.assertEqual(corner_answers(((ONE,),), (LESS,)), ((ONE,),))
        self.assertEqual(corner_answers(((LESS,),), (ONE,)), ((NIL,), (ONE,)))
        # Each row from 0 on is an answer here, and noughts the only corner.
        self.assertEqual(corner_answers(((NIL,),), (NIL,)), ((NIL,),))
        self.assertEqual(corner_answers(FLAT, (NIL, NIL)), ((NIL, NIL),))
        self.assertIs(is_answer(FLAT, (NIL, NIL), (TWO, HALF)), True)
        # Of the half line from (1, 0) along (1, 1) the end alone is a corner.
        self.assertEqual(corner_answers(HUMP, (LESS, ONE)), ((ONE, NIL),))
        self.assertIs(is_answer(HUMP, (LESS, ONE), (TWO, ONE)), True)
        self.assertIsNone(any_answer(HUMP, (LESS, NIL)))
        minus = pairs_of([[-value for value in row] for row in units(4)])
        self.assertEqual(len(corner_answers(minus, (ONE,) * 4)), 16)
        self.assertEqual(corner_answers(minus, (ONE,) * 4), tuple(sorted(corner_answers(minus, (ONE,) * 4))))

    def test_a_rest_of_nought_outside_of_the_lot(self):
        # The rest is 0 at both places; (1, 0) is the only answer on its lot.
        game = ((ONE, NIL), (ONE, ONE))
        self.assertEqual(corner_answers(game, (LESS, LESS)), ((ONE, NIL),))
        # Two equations of one unknown: no lot of as many places as unknowns would tell this corner.
        game = pairs_of([[0, 0], [1, 0]])
        self.assertEqual(corner_answers(game, (NIL, LESS)), ((ONE, NIL),))
        self.assertIs(is_answer(game, (NIL, LESS), (TWO, NIL)), True)
        game = pairs_of([[0, 1, 0], [0, 0, 0], [2, 0, 0]])
        self.assertIn((HALF, NIL, NIL), corner_answers(game, (NIL, NIL, LESS)))
        self.assertEqual(corner_answers(game, (NIL, NIL, LESS)), corners_by_hand(game, (NIL, NIL, LESS)))

    def test_noughts_are_a_corner_just_where_the_row_is_from_nought_on(self):
        for by in (-TINY, 0, TINY):
            for many in range(1, 6):
                row = pairs([by] + [0] * (many - 1))
                game = pairs_of([[0] * many] * many)
                self.assertEqual((NIL,) * many in corner_answers(game, row), by >= 0)

    def test_great_numbers(self):
        chance = Random(284)
        for many in (1, 2, 3):
            game = pairs_of([[great_number(chance) for _ in range(many)] for _ in range(many)])
            row = pairs([great_number(chance) for _ in range(many)])
            self.assertEqual(corner_answers(game, row), corners_by_hand(game, row))


class MetAndBarred(FaceCase):
    def shown(self, game, row):
        """Looks whether just one of both is told and shown; tells which."""
        met, barred = met_by(game, row), barring_row(game, row)
        self.assertEqual(met is None, barred is not None)
        if met is not None:
            self.is_row(met, len(game))
            self.assertGreaterEqual(min(numbers(met) + rest_by_hand(game, row, met)), 0)
            return True
        self.is_row(barred, len(game))
        self.assertGreaterEqual(min(numbers(barred)), 0)
        turned = [list(column) for column in zip(*table(game))]
        self.assertLessEqual(max(led_to(turned, numbers(barred))), 0)
        self.assertLess(sum([a * b for a, b in zip(numbers(row), numbers(barred))]), 0)
        return False

    def test_just_one_of_both(self):
        seen = set()
        for game, row, known in some_tables(Random(285), 5):
            with self.subTest(game=game, row=row):
                told = self.shown(game, row)
                seen.add((len(game), told))
                if any_answer(game, row) is not None:
                    self.assertTrue(told)
        self.assertEqual(len(seen), 10)

    def test_by_hand(self):
        self.assertTrue(self.shown(CROSS, (LESS, ONE)))
        self.assertFalse(self.shown(((LESS, NIL), (NIL, ONE)), (LESS, NIL)))
        self.assertFalse(self.shown(((NIL,),), ((-1, 10 ** 399),)))
        self.assertTrue(self.shown(((NIL,),), (NIL,)))
        self.assertTrue(self.shown((((1, 10 ** 399),),), ((-10 ** 399, 1),)))
        self.assertTrue(self.shown(ROCK, (NIL, NIL, NIL)))
        # Of a table that is the opposite of itself turned over each row below 0 is barred by all places together.
        self.assertFalse(self.shown(ROCK, (LESS, LESS, LESS)))
        self.assertFalse(self.shown(ROCK, pairs([-TINY, 0, 0])))
        self.assertTrue(self.shown(ROCK, (LESS, ONE, NIL)))

    def test_all_places_may_be_needed(self):
        for many in range(2, 6):
            # The rest at each place is what it has more than the next one, less a little at the first.
            ring = [[int(j == i) - int(j == (i + 1) % many) for j in range(many)] for i in range(many)]
            self.assertFalse(self.shown(pairs_of(ring), pairs([-TINY] + [0] * (many - 1))))
            self.assertEqual(len(set(barring_row(pairs_of(ring), pairs([-TINY] + [0] * (many - 1))))), 1)
            self.assertTrue(self.shown(pairs_of(ring), pairs([-1, 1] + [0] * (many - 2))))
            self.assertTrue(self.shown(pairs_of(ring), pairs([1 - many] + [1] * (many - 1))))

    def test_great_numbers(self):
        chance = Random(286)
        for many in (1, 2, 3, 4):
            game = pairs_of([[great_number(chance) for _ in range(many)] for _ in range(many)])
            self.shown(game, pairs([great_number(chance) for _ in range(many)]))
            away = pairs_of([[-abs(value) for value in row] for row in table(game)])
            self.assertFalse(self.shown(away, pairs([-abs(great_number(chance)) for _ in range(many)])))


class Forms(FaceCase):
    def test_the_table_plus_the_table_turned_over(self):
        for game in some_games(Random(287), 3):
            told = form_of(game)
            self.assertIs(is_form(told), True)
            rows = table(game)
            self.assertEqual(told, pairs_of([[rows[i][j] + rows[j][i] for j in range(len(game))]
                                             for i in range(len(game))]))
        self.assertEqual(form_of(SOLE), (((-7, 1),),))
        self.assertEqual(form_of(ROCK), ((NIL,) * 3,) * 3)
        self.assertEqual(form_of(FIRM), (((4, 1), TWO), (TWO, (4, 1))))

    def some_with_forms(self, seed):
        """Tables of all words: forms, plus what is the opposite of itself turned over, so the form stays the same."""
        chance = Random(seed)
        found = []
        for form in [form for form in many_forms(seed, 3) if len(form) <= 5] + [HORN] + [
                squares(chance, many) for many in range(1, 6) for _ in range(4)]:
            many = len(form)
            rows = table(form)
            for i in range(many):
                for j in range(i):
                    by = chance.choice([0, 0, 1, -2, Fraction(1, 3)])
                    rows[i][j] += by
                    rows[j][i] -= by
            found.append(pairs_of(rows))
        return found

    def test_above_there_is_an_answer_for_each_row(self):
        chance = Random(288)
        seen = set()
        for game in self.some_with_forms(289):
            word, plus = word_of(form_of(game)), is_plus(form_of(game))
            for row in [some_row(chance, len(game)) for _ in range(3)]:
                answer = any_answer(game, row)
                if word == "above":
                    self.assertIsNotNone(answer)
                if plus:
                    self.assertEqual(answer is not None, met_by(game, row) is not None)
                seen.add((word, plus, answer is None, met_by(game, row) is None))
        # Above, plus with and without an answer, from but not plus with one that is met and has none, and below.
        for told in [("above", True, False, False), ("from", True, False, False), ("from", True, True, True),
                     ("from", False, True, False), ("below", False, True, False)]:
            self.assertIn(told, seen)

    def test_not_below_noughts_are_the_only_answer_for_rows_above_nought(self):
        chance = Random(290)
        for game in self.some_with_forms(291):
            word = word_of(form_of(game))
            above = pairs([chance.choice([1, 2, Fraction(1, 9)]) for _ in game])
            some = pairs([chance.choice([0, 0, 1]) for _ in game])
            if word != "below":
                self.assertEqual(corner_answers(game, above), ((NIL,) * len(game),))
            if word == "above":
                self.assertEqual(corner_answers(game, some), ((NIL,) * len(game),))

    def test_a_form_below_has_another_answer_for_some_row_above_nought(self):
        seen = 0
        for form in [form for form in many_forms(292, 2) if len(form) <= 5]:
            if word_of(form) == "below":
                # Of the least lots with worths below 0 the stand is led to one number below 0 on its lot.
                for lot in sorted(lots_of(len(form)), key=len):
                    found = told_stand(form, lot)
                    if found is not None and number(found[1]) < 0:
                        break
                reached = led_to(table(form), numbers(found[0]))
                row = pairs([-value if k in lot else max(1, 1 - value) for k, value in enumerate(reached)])
                self.assertIs(is_answer(form, row, found[0]), True)
                self.assertGreaterEqual(len(corner_answers(form, row)), 2)
                seen += 1
        self.assertGreaterEqual(seen, 10)


class Games(FaceCase):
    def test_tables_and_rows(self):
        for game in [DOVE, MEET, ROCK, SOLE] + some_games(Random(293), 3):
            told = either_of(game)
            self.assertIs(type(told), tuple)
            given, row = told
            self.assertEqual(row, (LESS,) * len(game))
            rows = table(game)
            most = max([max(line) for line in rows]) + 1
            self.assertEqual(given, pairs_of([[most - value for value in line] for line in rows]))
            self.assertEqual(min([min(line) for line in table(given)]), 1)
            self.assertEqual(word_of(form_of(given)), "above")
        self.assertEqual(either_of(SOLE), (((ONE,),), (LESS,)))

    def test_the_answers_are_the_even_mixes(self):
        chance = Random(294)
        for game in some_games(chance, 3):
            given, row = either_of(game)
            corners = corner_answers(given, row)
            scaled = [pairs([value / sum(numbers(other)) for value in numbers(other)]) for other in corners]
            with self.subTest(game):
                self.assertEqual(tuple(sorted(scaled)), even_corners(game))
                for mix in [some_mix(chance, len(game)) for _ in range(4)] + list(even_corners(game)):
                    # The one multiple of a mix that may be an answer leads its best answers to just 1.
                    least = min(led_to(table(given), numbers(mix)))
                    other = pairs([value / least for value in numbers(mix)])
                    self.assertEqual(is_answer(given, row, other), is_even(game, mix))

    def test_numbers_below_nought_and_great_ones(self):
        game = (((-5, 1), (-9, 2)), ((-7, 1), (-6, 1)))
        self.assertEqual(either_of(game)[0], (((3, 2), ONE), ((7, 2), (5, 2))))
        by = 10 ** 399
        self.assertEqual(either_of((((by, 7),),)), (((ONE,),), (LESS,)))


class Errors(FaceCase):
    def test_table(self):
        for value in NO_GAMES:
            with self.subTest(value):
                for function in OF_BOTH:
                    self.told(InvalidGame, "given", value, function, value, (ONE, ONE))
                    self.told(InvalidGame, "given", value, function, row=None, table=value)
                self.told(InvalidGame, "given", value, is_answer, value, (ONE, ONE), (ONE, ONE))
                self.told(InvalidGame, "given", value, is_answer, other=None, row=None, table=value)
                self.told(InvalidGame, "given", value, form_of, value)
                self.told(InvalidGame, "given", value, form_of, table=value)
                self.told(InvalidGame, "given", value, either_of, value)
                self.told(InvalidGame, "given", value, either_of, game=value)

    def test_no_row(self):
        for value in OTHER_SORTS + [0, (), (ONE,), (ONE, ONE, ONE), [ONE, ONE], {0: ONE, 1: ONE}, "ab", (NIL,) * 6]:
            with self.subTest(value):
                for function in OF_BOTH:
                    self.told(InvalidRow, "index", None, function, FIRM, value)
                    self.told(InvalidRow, "index", None, function, row=value, table=FIRM)
                self.told(InvalidRow, "index", None, is_answer, FIRM, value, (ONE, ONE))
                self.told(InvalidRow, "index", None, is_answer, FIRM, (ONE, ONE), value)

    def test_the_first_that_is_no_fraction(self):
        for value in NO_FRACTIONS:
            with self.subTest(value):
                for at in range(3):
                    row = (LESS,) * at + (value,) * (3 - at)
                    for function in OF_BOTH:
                        self.told(InvalidRow, "index", at, function, ROCK, row)
                    self.told(InvalidRow, "index", at, is_answer, ROCK, row, (ONE, ONE, ONE))
                    self.told(InvalidRow, "index", at, is_answer, ROCK, (ONE, ONE, ONE), row)

    def test_the_first_wrong_argument_is_told(self):
        bad = [FIRM]
        for function in OF_BOTH:
            self.told(InvalidGame, "given", bad, function, bad, None)
        self.told(InvalidGame, "given", bad, is_answer, bad, None, None)
        self.told(InvalidRow, "index", 1, is_answer, FIRM, (ONE, 1), None)
        self.told(InvalidRow, "index", None, is_answer, FIRM, (LESS, LESS), (1,))

    def test_no_argument_is_changed(self):
        for value in [[[ONE, ONE], [ONE, ONE]], {0: FIRM}, [[], [[]]]]:
            kept = deepcopy(value)
            for function in OF_BOTH:
                self.told(InvalidGame, "given", value, function, value, (ONE, ONE))
                self.told(InvalidRow, "index", None, function, FIRM, value)
            self.assertEqual(value, kept)

    def test_equal_calls_have_equal_results_by_name_too(self):
        chance = Random(295)
        for game, row, _ in some_tables(chance, 1):
            again = pairs_of(table(game))
            same = pairs(numbers(row))
            for function in OF_BOTH:
                self.assertEqual(function(game, row), function(row=same, table=again))
            other = some_row(chance, len(game))
            self.assertEqual(is_answer(game, row, other), is_answer(other=other, row=same, table=again))
            self.assertEqual(form_of(table=again), form_of(game))
            self.assertEqual(either_of(game=again), either_of(game))

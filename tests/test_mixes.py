from copy import deepcopy
from fractions import Fraction
from random import Random

from everyface.errors import InvalidGame, InvalidShares, LikeMixes, NotAbove
from everyface.mixes import (
    all_unentered, barrier, best_answers, entering, even_corners, gains, hurting, is_even, is_game, is_unentered,
    is_unhurt, mean, next_mix,
)
from everyface.nearby import strict_places
from tests.mix_samples import (
    ALL_SAME, DOVE, EVEN, MEET, NO_GAMES, NO_SHARES, NO_TUPLES, OTHER_SUMS, ROCK, SOLE, THIRD, THIRDS, best_by_hand,
    corners_by_hand, enters_by_hand, even_by_hand, gets, hurts_by_hand, lot_by_hand, some_game, some_games, some_mix,
    told_changes,
)
from tests.room_samples import shares_room
from tests.samples import (
    FaceCase, HALF, LESS, NIL, NO_FRACTIONS, ONE, TWO, form_of, great_number, is_mix_of, led_to, number, numbers, pair,
    pairs, shares_by, solutions, table, units,
)

OF_A_GAME = (even_corners, all_unentered)
OF_A_MIX = (gains, mean, best_answers, is_even, is_unentered, is_unhurt, entering, hurting, next_mix)
TINY = Fraction(1, 10 ** 300)


def places_alone(many):
    return [pairs(row) for row in units(many)]


def small_steps(mix):
    """Mixes next to a mix: a hundredth of each place alone and of each two."""
    others = places_alone(len(mix)) + shares_by(len(mix), 2)
    return [pairs([(99 * a + b) / 100 for a, b in zip(numbers(mix), numbers(other))]) for other in others]


class Examples(FaceCase):
    def test_the_document(self):
        self.assertEqual(
            [is_game(DOVE), is_game(((ONE, TWO),)), gains(DOVE, EVEN), mean(DOVE, EVEN), best_answers(MEET, EVEN),
             is_even(DOVE, EVEN), is_even(MEET, EVEN)],
            [True, False, ((1, 2), (1, 2)), (1, 2), (0,), True, False])
        self.assertEqual(
            [all_unentered(DOVE), all_unentered(MEET), even_corners(MEET), all_unentered(ROCK),
             is_unentered(ROCK, THIRDS),
             is_unhurt(ROCK, THIRDS)],
            [(((1, 2), (1, 2)),), (((0, 1), (1, 1)), ((1, 1), (0, 1))),
             (((0, 1), (1, 1)), ((1, 1), (0, 1)), ((1, 3), (2, 3))), (), False, True])
        self.assertEqual(
            [entering(DOVE, EVEN), entering(MEET, EVEN)[0][0] > 0, hurting(ROCK, THIRDS),
             barrier(MEET, (ONE, NIL), (NIL, ONE)), barrier(DOVE, EVEN, (ONE, NIL)),
             next_mix(((ONE, TWO), (TWO, ONE)), ((1, 4), (3, 4)))],
            [None, True, None, (2, 3), (1, 1), ((7, 22), (15, 22))])


class IsGame(FaceCase):
    def test_games(self):
        for game in [DOVE, MEET, ROCK, SOLE] + some_games(Random(260), 2):
            self.assertIs(is_game(game), True)

    def test_sizes(self):
        for many in range(8):
            for size in range(8):
                self.assertIs(is_game(((NIL,) * size,) * many), many == size and 1 <= many <= 5)

    def test_other_values(self):
        for value in NO_GAMES:
            with self.subTest(value):
                self.assertIs(is_game(value), False)
        for value in NO_FRACTIONS:
            self.assertIs(is_game(((ONE, value), (ONE, ONE))), False)
            self.assertIs(is_game(((value,),)), False)


class Gains(FaceCase):
    def test_many(self):
        chance = Random(261)
        for game in some_games(chance, 4):
            mix = some_mix(chance, len(game))
            with self.subTest(game=game, mix=mix):
                told = led_to(table(game), numbers(mix))
                self.is_row(gains(game, mix), len(game))
                self.assertEqual(gains(game, mix), pairs(told))
                self.assertEqual(mean(game, mix), pair(gets(game, mix, mix)))
                self.assertEqual(best_answers(game, mix), tuple(best_by_hand(game, mix)))
                self.assertIs(is_even(game, mix), even_by_hand(game, mix))
                # No mix gets more beside an even one than it does itself; beside another one some place alone does.
                most = max([gets(game, other, mix) for other in places_alone(len(game))])
                self.assertEqual(is_even(game, mix), most == gets(game, mix, mix))

    def test_best_answers_outside_of_the_lot(self):
        self.assertEqual(best_answers(MEET, (NIL, ONE)), (1,))
        self.assertEqual(best_answers(DOVE, (ONE, NIL)), (1,))
        self.assertEqual(best_answers(DOVE, (NIL, ONE)), (0,))
        self.assertEqual(best_answers(((ONE, NIL), (ONE, NIL)), (ONE, NIL)), (0, 1))
        self.assertEqual(best_answers(ALL_SAME, (NIL, ONE, NIL)), (0, 1, 2))
        self.assertEqual(best_answers(ROCK, THIRDS), (0, 1, 2))
        self.assertIs(is_even(((ONE, NIL), (ONE, NIL)), (ONE, NIL)), True)

    def test_a_little_more(self):
        for by in (-TINY, 0, TINY):
            game = form_of([[1, 0], [1 + by, 0]])
            self.assertEqual(best_answers(game, (ONE, NIL)), (0,) if by < 0 else (0, 1) if by == 0 else (1,))
            self.assertIs(is_even(game, (ONE, NIL)), by <= 0)

    def test_one_place(self):
        self.assertEqual(gains(SOLE, (ONE,)), ((-7, 2),))
        self.assertEqual(mean(SOLE, (ONE,)), (-7, 2))
        self.assertEqual(best_answers(SOLE, (ONE,)), (0,))
        for function in (is_even, is_unentered, is_unhurt):
            self.assertIs(function(SOLE, (ONE,)), True)
        self.assertIsNone(entering(SOLE, (ONE,)))
        self.assertIsNone(hurting(SOLE, (ONE,)))
        for function in OF_A_GAME:
            self.assertEqual(function(SOLE), ((ONE,),))


class Corners(FaceCase):
    def test_many_games(self):
        counts = set()
        for game in some_games(Random(262), 4):
            with self.subTest(game):
                told = even_corners(game)
                self.assertEqual(told, corners_by_hand(game))
                self.assertGreaterEqual(len(told), 1)
                for mix in told:
                    self.are_shares(mix, len(game))
                    self.assertIs(is_even(game, mix), True)
                    self.is_a_corner(game, mix)
                counts.add((len(game), min(len(told), 3)))
        self.assertGreaterEqual(len(counts), 11)

    def is_a_corner(self, game, mix):
        """Looks whether no other mix with its lot within that of the mix has all best answers get alike."""
        lot, best = lot_by_hand(mix), best_by_hand(game, mix)
        rows = table(game)
        lines = [[rows[i][j] - rows[best[0]][j] for j in lot] for i in best] + [[1] * len(lot)]
        self.assertEqual(solutions(lines, [0] * len(best) + [1])[1], 0)

    def test_each_even_mix_is_a_mix_of_corners(self):
        chance = Random(263)
        others = 0
        for game in some_games(chance, 4):
            corners = even_corners(game)
            mixes = [some_mix(chance, len(game)) for _ in range(4)] + shares_by(len(game), 2)
            mixes += [pairs([(a + 2 * b) / 3 for a, b in zip(numbers(one), numbers(other))])
                      for one in corners for other in corners]
            for mix in mixes:
                if is_even(game, mix):
                    lot, best = set(lot_by_hand(mix)), set(best_answers(game, mix))
                    fit = [corner for corner in corners
                           if set(lot_by_hand(corner)) <= lot and best <= set(best_answers(game, corner))]
                    self.assertTrue(is_mix_of(mix, fit))
                    others += mix not in corners
        self.assertGreaterEqual(others, 40)

    def test_even_mixes_that_are_no_corner(self):
        game = ((ONE, ONE, NIL), (ONE, ONE, NIL), (NIL, NIL, NIL))
        self.assertEqual(even_corners(game), ((NIL, NIL, ONE), (NIL, ONE, NIL), (ONE, NIL, NIL)))
        self.assertIs(is_even(game, (HALF, HALF, NIL)), True)
        self.assertIs(is_even(game, (HALF, NIL, HALF)), False)
        self.assertEqual(even_corners(ALL_SAME), ((NIL, NIL, ONE), (NIL, ONE, NIL), (ONE, NIL, NIL)))
        # Each mix of both from the third to the whole is even; at its ends best answers are more.
        edge = form_of([[0, 0, 1], [0, 0, 1], [-1, "1/2", 0]])
        self.assertEqual(even_corners(edge), corners_by_hand(edge))
        self.assertIn(((1, 3), (2, 3), NIL), even_corners(edge))

    def test_the_order_is_that_of_tuples(self):
        corners = even_corners(MEET)
        self.assertEqual(corners, ((NIL, ONE), (ONE, NIL), (THIRD, (2, 3))))
        five = form_of([[int(i == j) for j in range(5)] for i in range(5)])
        self.assertEqual(len(even_corners(five)), 31)
        self.assertEqual(list(even_corners(five)), sorted(even_corners(five)))
        self.assertEqual(len(all_unentered(five)), 5)

    def test_great_numbers(self):
        chance = Random(264)
        for many in (2, 3):
            game = form_of([[great_number(chance) for _ in range(many)] for _ in range(many)])
            self.assertEqual(even_corners(game), corners_by_hand(game))
            for mix in all_unentered(game):
                self.assertIs(is_unentered(game, mix), True)


class EnteringCase(FaceCase):
    def is_right(self, game, mix, others):
        """Looks whether what is told of a mix is so: by mixes that enter or hurt it, or that none does."""
        told = told_changes(game, mix) if even_by_hand(game, mix) else "uneven"
        self.assertIs(is_unentered(game, mix), told == "above")
        self.assertIs(is_unhurt(game, mix), told in ("above", "from"))
        for found, by_hand, safe in [(entering(game, mix), enters_by_hand, told == "above"),
                                     (hurting(game, mix), hurts_by_hand, told in ("above", "from"))]:
            if safe:
                self.assertIsNone(found)
                self.assertFalse(any([by_hand(game, mix, other) for other in others]))
            else:
                self.are_shares(found, len(game))
                self.assertTrue(by_hand(game, mix, found))
        return told


class Entering(EnteringCase):
    def test_many_mixes(self):
        chance = Random(265)
        seen = {}
        for game in some_games(chance, 2):
            mixes = [some_mix(chance, len(game)) for _ in range(2)] + list(even_corners(game))
            mixes += [pairs([Fraction(1, len(game))] * len(game))]
            for mix in mixes:
                with self.subTest(game=game, mix=mix):
                    others = [some_mix(chance, len(game)) for _ in range(3)] + small_steps(mix)
                    seen[(len(game), self.is_right(game, mix, others))] = True
        for many in range(2, 6):
            for told in ("above", "from", "below", "uneven"):
                self.assertIn((many, told), seen)

    def test_even_but_entered_and_unhurt_but_not_unentered(self):
        for game, mix, told in [
            (ROCK, THIRDS, "from"), (DOVE, EVEN, "above"), (DOVE, (ONE, NIL), "uneven"),
            (MEET, (THIRD, (2, 3)), "below"),
            (MEET, (ONE, NIL), "above"), (MEET, EVEN, "uneven"), (ALL_SAME, THIRDS, "from"),
            (ALL_SAME, (ONE, NIL, NIL), "from"), (((NIL, NIL), (NIL, ONE)), (ONE, NIL), "below"),
            (((NIL, NIL), (NIL, NIL)), (ONE, NIL), "from"), (((NIL, NIL), (NIL, LESS)), (ONE, NIL), "above"),
            (((NIL, ONE), (NIL, NIL)), (ONE, NIL), "above"), (((NIL, LESS), (NIL, NIL)), (ONE, NIL), "below"),
        ]:
            with self.subTest(game=game, mix=mix):
                self.assertEqual(self.is_right(game, mix, shares_by(len(game), 6)), told)

    def test_a_little_of_each_numbers_counts(self):
        # Beside the first place both get alike; beside the second one, which one gets more?
        for by in (-TINY, 0, TINY):
            game = form_of([[0, 0], [0, by]])
            told = self.is_right(game, (ONE, NIL), places_alone(2))
            self.assertEqual(told, "above" if by < 0 else "from" if by == 0 else "below")
            rocks = form_of([[by, -1, 1], [1, by, -1], [-1, 1, by]])
            told = self.is_right(rocks, THIRDS, places_alone(3))
            self.assertEqual(told, "above" if by < 0 else "from" if by == 0 else "below")

    def test_best_answers_outside_of_the_lot_count_from_nought_on_alone(self):
        # Along the changes the form is - 2 x y: above 0 where both are from 0 on, below 0 where they differ.
        game = form_of([[0, 0, 0], [0, 0, -1], [0, -1, 0]])
        self.assertEqual(self.is_right(game, (ONE, NIL, NIL), shares_by(3, 5)), "from")
        self.assertEqual(self.is_right(form_of([[0, 0, 0], [0, -1, -3], [0, -3, -1]]), (ONE, NIL, NIL),
                                       shares_by(3, 5)),
                         "above")
        self.assertEqual(self.is_right(form_of([[0, 0, 0], [0, -1, 3], [0, 3, -1]]), (ONE, NIL, NIL), shares_by(3, 5)),
                         "below")

    def test_great_numbers(self):
        chance = Random(266)
        for many in (2, 3):
            rows = [[great_number(chance) for _ in range(many)] for _ in range(many)]
            level = form_of([[value - sum(row) / many for value in row] for row in rows])
            self.is_right(level, pairs([Fraction(1, many)] * many), places_alone(many))


class Unentered(EnteringCase):
    def test_all_are_told(self):
        chance = Random(267)
        counts = set()
        for game in some_games(chance, 4):
            told = all_unentered(game)
            with self.subTest(game):
                self.assertEqual(list(told), sorted(set(told)))
                self.assertLessEqual(set(told), set(even_corners(game)))
                for mix in even_corners(game):
                    self.assertIs(mix in told, is_unentered(game, mix))
                for mix in [some_mix(chance, len(game)) for _ in range(4)]:
                    self.assertEqual(mix in told, is_unentered(game, mix))
                self.assertEqual(len({tuple(lot_by_hand(mix)) for mix in told}), len(told))
                self.no_other_is_even(game, told)
                counts.add((len(game), min(len(told), 2)))
        self.assertGreaterEqual(len(counts), 12)

    def no_other_is_even(self, game, told):
        """Looks whether no other even mix has its lot within the best answers to an unentered one."""
        for mix in told:
            best = set(best_answers(game, mix))
            within = [other for other in even_corners(game) if set(lot_by_hand(other)) <= best]
            self.assertEqual(within, [mix])

    def test_alike_turned_over_they_are_the_strict_places_of_the_opposite(self):
        chance = Random(268)
        for many in (1, 2, 3):
            for _ in range(20):
                game = some_game(chance, many, 2)
                away = form_of([[-value for value in row] for row in table(game)])
                self.assertEqual(all_unentered(game), strict_places((away, (NIL,) * many), shares_room(many)))

    def test_alike_turned_over_no_mix_near_has_so_great_a_mean(self):
        chance = Random(269)
        for many in range(2, 6):
            for _ in range(6):
                game = some_game(chance, many, 2)
                for mix in all_unentered(game):
                    for other in small_steps(mix):
                        both = zip(numbers(mix), numbers(other))
                        nearer = pairs([(10 ** 6 * a + b) / (10 ** 6 + 1) for a, b in both])
                        if nearer != mix:
                            self.assertLess(gets(game, nearer, nearer), gets(game, mix, mix))

    def test_the_barrier_is_above_nought_against_all_others(self):
        chance = Random(270)
        for game in some_games(chance, 2):
            for mix in even_corners(game):
                others = [other for other in small_steps(mix) + places_alone(len(game)) if other != mix]
                barriers = [number(barrier(game, mix, other)) for other in others]
                if is_unentered(game, mix):
                    self.assertTrue(all([value > 0 for value in barriers]))
                else:
                    self.assertEqual(barrier(game, mix, entering(game, mix)), NIL)


class Barriers(FaceCase):
    def is_right(self, game, mix, other):
        told = number(barrier(game, mix, other))
        self.assertTrue(0 <= told <= 1)
        for part in (Fraction(1, 1000), Fraction(1, 3), Fraction(999, 1000)):
            if told > 0:
                self.assertGreater(self.ahead(game, mix, other, told * part), 0)
        if 0 < told < 1:
            self.assertEqual(self.ahead(game, mix, other, told), 0)
        if told < 1:
            # Right behind the barrier, however near, the mix does not get more.
            behind = told + (1 - told) / 10 ** 9
            self.assertLessEqual(self.ahead(game, mix, other, behind), 0)
        return told

    def ahead(self, game, mix, other, part):
        beside = pairs([(1 - part) * a + part * b for a, b in zip(numbers(mix), numbers(other))])
        return gets(game, mix, beside) - gets(game, other, beside)

    def test_many(self):
        chance = Random(271)
        seen = set()
        for game in some_games(chance, 8):
            mix, other = some_mix(chance, len(game)), some_mix(chance, len(game))
            if mix != other:
                with self.subTest(game=game, mix=mix, other=other):
                    told = self.is_right(game, mix, other)
                    seen.add("whole" if told == 1 else "none" if told == 0 else "part")
        self.assertEqual(len(seen), 3)

    def test_by_hand(self):
        first, second = (ONE, NIL), (NIL, ONE)
        for rows, told in [
            # With these rows a is the first less the third number, c the second less the fourth.
            ([[1, 1], [0, 0]], 1), ([[1, 0], [0, 0]], 1), ([[0, 1], [0, 0]], 1), ([[0, 0], [0, 0]], 0),
            ([[1, 0], [0, 1]], Fraction(1, 2)), ([[2, 0], [0, 1]], Fraction(2, 3)), ([[0, 0], [0, 1]], 0),
            ([[0, 1], [1, 0]], 0), ([[0, 0], [1, 0]], 0), ([[0, 0], [1, 1]], 0),
            ([[1, -1], [0, TINY - 1]], 1 / (1 + TINY)), ([[TINY, 0], [0, 1]], TINY / (1 + TINY)),
        ]:
            self.assertEqual(barrier(form_of(rows), first, second), pair(told))
            self.is_right(form_of(rows), first, second)

    def test_both_mixes_are_the_same(self):
        for game in some_games(Random(272), 1):
            mix = some_mix(Random(273), len(game))
            self.told_bare(LikeMixes, barrier, game, mix, pairs(numbers(mix)))
        self.told_bare(LikeMixes, barrier, other=EVEN, mix=EVEN, game=DOVE)


class NextMixes(FaceCase):
    def test_many(self):
        chance = Random(274)
        for many in range(1, 6):
            for kind in (0, 1, 2):
                game = form_of([[abs(value) + 1 for value in row] for row in table(some_game(chance, many, kind))])
                mix = some_mix(chance, many)
                told = next_mix(game, mix)
                self.are_shares(told, many)
                whole = gets(game, mix, mix)
                gained = led_to(table(game), numbers(mix))
                self.assertEqual(told, pairs([x * gain / whole for x, gain in zip(numbers(mix), gained)]))

    def test_alike_turned_over_the_mean_rises_unless_it_is_the_same(self):
        chance = Random(275)
        seen = set()
        for many in range(1, 6):
            for _ in range(15):
                rows = table(some_game(chance, many, 2))
                game = form_of([[value + 2 for value in row] for row in rows])
                mix = some_mix(chance, many)
                told = next_mix(game, mix)
                before, behind = gets(game, mix, mix), gets(game, told, told)
                if told == mix:
                    self.assertEqual(before, behind)
                else:
                    self.assertGreater(behind, before)
                seen.add((told == mix, many > 1))
        self.assertEqual(len(seen), 3)

    def test_the_same_mix_again(self):
        for game, mix in [(((ONE, TWO), (TWO, ONE)), EVEN), (((TWO, ONE), (ONE, TWO)), (ONE, NIL)),
                          ((((7, 2),),), (ONE,)),
                          (ALL_SAME, (HALF, THIRD, (1, 6)))]:
            self.assertEqual(next_mix(game, mix), mix)

    def test_a_number_that_is_not_above_nought(self):
        for many in range(1, 6):
            mix = (ONE,) + (NIL,) * (many - 1)
            for i in range(many):
                for j in range(many):
                    for value in (NIL, LESS, (-1, 10 ** 399)):
                        rows = [[ONE] * many for _ in range(many)]
                        rows[i][j] = value
                        self.told_bare(NotAbove, next_mix, tuple([tuple(row) for row in rows]), mix)
            self.assertEqual(next_mix((((1, 10 ** 399),) * many,) * many, mix), mix)
        self.told_bare(NotAbove, next_mix, mix=EVEN, game=DOVE)


class Errors(FaceCase):
    def test_game(self):
        for value in NO_GAMES:
            with self.subTest(value):
                for function in OF_A_GAME:
                    self.told(InvalidGame, "given", value, function, value)
                    self.told(InvalidGame, "given", value, function, game=value)
                for function in OF_A_MIX:
                    self.told(InvalidGame, "given", value, function, value, EVEN)
                    self.told(InvalidGame, "given", value, function, mix=None, game=value)
                self.told(InvalidGame, "given", value, barrier, value, EVEN, EVEN)
                self.told(InvalidGame, "given", value, barrier, other=None, mix=None, game=value)

    def test_no_mix(self):
        for value in NO_TUPLES:
            with self.subTest(value):
                for function in OF_A_MIX:
                    self.told(InvalidShares, "index", None, function, DOVE, value)
                    self.told(InvalidShares, "index", None, function, mix=value, game=DOVE)
                self.told(InvalidShares, "index", None, barrier, DOVE, value, EVEN)
                self.told(InvalidShares, "index", None, barrier, DOVE, EVEN, value)

    def test_the_first_that_is_no_fraction_from_nought_on(self):
        for value in NO_SHARES:
            with self.subTest(value):
                for at in range(3):
                    mix = (ONE,) * at + (value,) * (3 - at)
                    for function in OF_A_MIX:
                        self.told(InvalidShares, "index", at, function, ROCK, mix)
                    self.told(InvalidShares, "index", at, barrier, ROCK, mix, THIRDS)
                    self.told(InvalidShares, "index", at, barrier, ROCK, THIRDS, mix)

    def test_another_sum_than_one(self):
        for mix in OTHER_SUMS:
            for function in OF_A_MIX:
                self.told(InvalidShares, "index", None, function, DOVE, mix)
            self.told(InvalidShares, "index", None, barrier, DOVE, mix, mix)
            self.told(InvalidShares, "index", None, barrier, DOVE, EVEN, mix)

    def test_the_first_wrong_argument_is_told(self):
        bad = [DOVE]
        for function in OF_A_MIX:
            self.told(InvalidGame, "given", bad, function, bad, None)
        self.told(InvalidGame, "given", bad, barrier, bad, None, None)
        self.told(InvalidShares, "index", 1, barrier, DOVE, (HALF, 1), None)
        self.told(InvalidShares, "index", None, barrier, DOVE, (HALF, NIL), (1, 1))
        # What is told of the numbers of the game comes last.
        self.told(InvalidShares, "index", 0, next_mix, DOVE, (LESS, TWO))

    def test_no_argument_is_changed(self):
        for value in [[[ONE, ONE], [ONE, ONE]], {0: DOVE}, [[], [[]]], ([ONE],)]:
            kept = deepcopy(value)
            for function in OF_A_MIX:
                self.told(InvalidGame, "given", value, function, value, EVEN)
                self.told(InvalidShares, "index", None, function, DOVE, value)
            self.assertEqual(value, kept)

    def test_equal_calls_have_equal_results_by_name_too(self):
        chance = Random(276)
        for game in some_games(chance, 1):
            again = form_of(table(game))
            mix = some_mix(chance, len(game))
            for function in OF_A_GAME:
                self.assertEqual(function(game), function(game=again))
                self.assertIs(type(function(game)), tuple)
            for function in OF_A_MIX[:-1]:
                self.assertEqual(function(game, mix), function(mix=pairs(numbers(mix)), game=again))
            self.assertIs(is_game(value=game), True)
        self.assertEqual(barrier(other=(NIL, ONE), mix=(ONE, NIL), game=MEET), (2, 3))
        self.assertEqual(next_mix(mix=EVEN, game=((ONE, TWO), (TWO, ONE))), EVEN)

"""What is promised across parts: several parts say the same of one thing."""

from fractions import Fraction
from itertools import combinations
from random import Random
from unittest import TestCase

from everyface.checker import accepts
from everyface.certificates import certify_cone, certify_least, certify_word
from everyface.cones import cone_form, cone_word
from everyface.eithers import any_answer, corner_answers, either_of, form_of, is_answer, met_by
from everyface.forms import led, worth
from everyface.mixes import (
    all_unentered, barrier, even_corners, hurting, is_even, is_unentered, is_unhurt, mean, next_mix,
)
from everyface.nearby import multipliers, strict_places, word_near
from everyface.quadratics import falling, greatest_of, is_bounded, least_of, slope_at, worth_at
from everyface.rooms import corners_of_room, room_edges, told_places
from everyface.shares import is_least_place, least_corners, least_worth
from everyface.sunk import sunk_near
from everyface.webs import full_lots, heaviest, place_of, untied_form, untied_number, web_form
from everyface.words import is_plus, is_zero, low_row, word_of
from tests.mix_samples import some_games, some_mix
from tests.room_samples import shares_room
from tests.samples import (
    CROSS, DIP, FIRM, FLAT, HORN, HUMP, LESS, NIL, ONE, SINGLE, any_form, many_forms, number, numbers, pairs,
    shares_by, squares, table, units,
)
from tests.samples import form_of as pairs_of
from tests.web_samples import some_webs


def quarter(many):
    """The room of all rows from 0 on."""
    return (many, pairs_of([[-value for value in row] for row in units(many)]), (NIL,) * many)


def opposite_of(form):
    return pairs_of([[-value for value in row] for row in table(form)])


def some_forms(seed, most):
    chance = Random(seed)
    found = [form for form in many_forms(seed, 3) if len(form) <= most]
    found += [squares(chance, many) for many in range(1, most + 1) for _ in range(5)]
    return found + [form for form in (HUMP, CROSS, FIRM, DIP, FLAT, SINGLE, HORN) if len(form) <= most]


class OfOneForm(TestCase):
    def test_the_cone_of_all_rows_from_nought_on(self):
        for form in some_forms(330, 6):
            edges = pairs_of(units(len(form)))
            self.assertEqual(cone_word(form, edges), word_of(form))
            self.assertEqual(cone_form(form, edges), form)
            claim, paper = certify_cone(form, edges)
            if claim[3] != "above":
                # What shows the word on the cone shows that of the form.
                low = number(worth(form, paper))
                self.assertEqual(low < 0, word_of(form) == "below")
                self.assertEqual(is_zero(form, paper), word_of(form) == "from")

    def test_the_room_of_all_rows_from_nought_on(self):
        seen = set()
        for form in some_forms(331, 3):
            many = len(form)
            room, quadratic = quarter(many), (form, (NIL,) * many)
            word = word_of(form)
            self.assertEqual(cone_word(form, room_edges(room)), word)
            self.assertEqual(is_bounded(quadratic, room), word != "below")
            near = {"above": "strict", "from": "least", "below": "down"}[word]
            self.assertEqual(word_near(quadratic, room, (NIL,) * many), near)
            self.assertEqual(strict_places(quadratic, room), ((NIL,) * many,) if word == "above" else ())
            if word == "below":
                self.assertLess(number(worth(form, falling(quadratic, room)[1])), 0)
                self.assertIs(accepts(("word", form, "below"), falling(quadratic, room)[1]), True)
            else:
                self.assertEqual(least_of(quadratic, room)[0], NIL)
            # With slopes below 0 at all places: bounded exactly if the form is above 0.
            self.assertEqual(is_bounded((form, (LESS,) * many), room), word == "above")
            seen.add(word)
        self.assertEqual(len(seen), 3)

    def test_the_room_of_shares(self):
        for form in some_forms(332, 3):
            many = len(form)
            room, quadratic = shares_room(many), (form, (NIL,) * many)
            low, place = least_of(quadratic, room)
            self.assertEqual(low, least_worth(form))
            self.assertIs(is_least_place(form, place), True)
            self.assertEqual(sorted(told_places(room)), sorted(corners_of_room(room)))
            for corner in least_corners(form):
                self.assertIn(word_near(quadratic, room, corner), ("strict", "least"))
                self.assertEqual(worth_at(quadratic, corner), low)
                self.assertIsNotNone(multipliers(quadratic, room, corner))
                self.assertEqual(slope_at(quadratic, corner),
                                 pairs([2 * value for value in numbers(led(form, corner))]))
            high = least_worth(opposite_of(form))
            self.assertEqual(greatest_of(quadratic, room)[0], (-high[0], high[1]))

    def test_the_opposite_game(self):
        # Least places are even in the game of the opposite numbers; the least even mean is the least worth.
        chance = Random(333)
        for form in some_forms(334, 5):
            game = opposite_of(form)
            corners = even_corners(game)
            low = least_worth(form)
            self.assertEqual(max([number(mean(game, mix)) for mix in corners]), -number(low))
            best = tuple(sorted([mix for mix in corners if worth(form, mix) == low]))
            self.assertTrue(all([is_least_place(form, mix) for mix in best]))
            for corner in least_corners(form):
                self.assertIs(is_even(game, corner), True)
                self.assertIs(is_unhurt(game, corner), True)
                self.assertIsNone(hurting(game, corner))
            if len(least_corners(form)) == 1:
                self.assertIs(is_unentered(game, least_corners(form)[0]), True)
            mix = some_mix(chance, len(form))
            # Right beside a least place that is no corner there are others.
            if mix not in least_corners(form) and is_least_place(form, mix):
                self.assertIs(is_unentered(game, mix), False)

    def test_unentered_mixes_are_the_strict_places_of_shares(self):
        for form in some_forms(335, 3):
            told = strict_places((form, (NIL,) * len(form)), shares_room(len(form)))
            self.assertEqual(told, all_unentered(opposite_of(form)))

    def test_unhurt_mixes_are_the_places_of_shares_that_are_locally_least(self):
        chance = Random(336)
        seen = set()
        for form in some_forms(337, 3):
            game, quadratic = opposite_of(form), (form, (NIL,) * len(form))
            for mix in [some_mix(chance, len(form)), *even_corners(game)]:
                word = word_near(quadratic, shares_room(len(form)), mix)
                self.assertEqual(word != "down", is_unhurt(game, mix))
                self.assertEqual(word == "strict", is_unentered(game, mix))
                even = multipliers(quadratic, shares_room(len(form)), mix) is not None
                self.assertEqual(even, is_even(game, mix))
                seen.add((word, even))
        self.assertEqual(len(seen), 4)

    def test_the_either_or_table(self):
        chance = Random(338)
        seen = set()
        for form in some_forms(339, 5):
            many, word = len(form), word_of(form)
            self.assertEqual(form_of(form), pairs_of([[2 * value for value in row] for row in table(form)]))
            self.assertEqual(word_of(form_of(form)), word)
            self.assertEqual(is_plus(form_of(form)), is_plus(form))
            noughts = (NIL,) * many
            above = pairs([chance.choice([1, 2, Fraction(1, 3)]) for _ in range(many)])
            if word != "below":
                self.assertEqual(corner_answers(form, above), (noughts,))
            # The zeros are the answers for noughts but these, if the word is not below.
            for corner in least_corners(form):
                if word == "from":
                    self.assertIs(is_answer(form, noughts, corner), True)
            if is_plus(form):
                for row in [pairs([chance.choice([-1, 0, 1]) for _ in range(many)]) for _ in range(3)]:
                    self.assertEqual(any_answer(form, row) is None, met_by(form, row) is None)
                    self.assertFalse(word == "above" and any_answer(form, row) is None)
            seen.add((word, is_plus(form)))
        self.assertEqual(len(seen), 4)

    def test_above_answers_are_the_multipliers_of_a_quadratic(self):
        # Over rows from 0 on z is an answer exactly if the slope there, z'M z + q'z, twice, has multipliers.
        chance = Random(340)
        seen = set()
        for form in some_forms(341, 3):
            many = len(form)
            row = pairs([chance.choice([-2, -1, 0, 1]) for _ in range(many)])
            quadratic = (form, pairs([2 * value for value in numbers(row)]))
            for other in [*corner_answers(form, row), some_mix(chance, many), (NIL,) * many]:
                told = multipliers(quadratic, quarter(many), other)
                self.assertEqual(told is not None, is_answer(form, row, other))
                seen.add(told is not None)
            if word_of(form) == "above":
                place = least_of(quadratic, quarter(many))[1]
                self.assertIs(is_answer(form, row, place), True)
            for place in strict_places(quadratic, quarter(many)):
                self.assertIn(place, corner_answers(form, row))
        self.assertEqual(len(seen), 2)

    def test_sunk_by_ones_it_is_the_least_worth(self):
        for form in some_forms(342, 6)[::5]:
            ones = ((ONE,) * len(form),) * len(form)
            low = number(least_worth(form))
            self.assertEqual(sunk_near(form, ones, low.denominator), (low.numerator, True))
            near, is_just = sunk_near(form, ones, 1000)
            self.assertTrue(near <= low * 1000 < near + 1)
            self.assertEqual(is_just, near == low * 1000)

    def test_papers_say_the_same(self):
        for form in some_forms(343, 4):
            (_, _, word), paper = certify_word(form)
            (_, _, low), (row, _) = certify_least(form)
            self.assertEqual(word, "above" if low[0] > 0 else "from" if low[0] == 0 else "below")
            self.assertEqual(worth(form, row), low)
            if word == "below":
                self.assertEqual(paper, low_row(form))
                self.assertIs(accepts(("not plus", form), paper), True)
            else:
                rows = paper if word == "above" else paper[0]
                self.assertEqual(accepts(("least", form, NIL), (row, rows)), word == "from")


class OfOneWeb(TestCase):
    def test_tied_lots_by_the_form_and_by_the_game(self):
        for web in [web for web in some_webs(Random(344), 2) if web[0] <= 5]:
            form = web_form(web)
            game = opposite_of(form)
            full = tuple(sorted([place_of(web, lot) for lot in full_lots(web)]))
            self.assertEqual(all_unentered(game), full)
            weight, lots = heaviest(web)
            self.assertEqual(max([number(mean(game, mix)) for mix in full]), -1 / number(weight))
            heavy = tuple([place_of(web, lot) for lot in lots])
            self.assertEqual(least_corners(form), heavy)
            # In no mix but these is the worth the least one.
            for mix in shares_by(web[0], 3):
                self.assertEqual(is_least_place(form, mix), mix in heavy)

    def test_untied_lots_by_the_form_and_by_the_game(self):
        for web in [web for web in some_webs(Random(345), 1) if web[0] <= 5]:
            many = untied_number(web)
            form = untied_form(web, (many, 1))
            self.assertEqual(word_of(form), "from")
            best = max([number(mean(opposite_of(form), mix)) for mix in even_corners(opposite_of(form))])
            self.assertEqual(best, 0)
            # With 1 at each place and at tied pairs the least worth is 1 over the number of places.
            ones = pairs_of([[1] * web[0]] * web[0])
            tied = pairs_of([[value + 1 for value in row] for row in table(untied_form(web, ONE))])
            self.assertEqual(sunk_near(tied, ones, many), (1, True))

    def test_ties_turned_into_their_opposite(self):
        for web in some_webs(Random(346), 1):
            others = tuple([tie for tie in combinations(range(web[0]), 2) if tie not in web[1]])
            turned = (web[0], others, (ONE,) * web[0])
            self.assertEqual(heaviest(turned)[0], (untied_number(web), 1))


class OfOneGame(TestCase):
    def test_mixes_and_the_either_or_table(self):
        for game in some_games(Random(347), 2):
            given, row = either_of(game)
            scaled = sorted([pairs([value / sum(numbers(other)) for value in numbers(other)])
                             for other in corner_answers(given, row)])
            self.assertEqual(tuple(scaled), even_corners(game))
            self.assertEqual(word_of(form_of(given)), "above")
            # The table is a constant less the game, so it has the same even mixes as the opposite of the game has.
            self.assertEqual(even_corners(opposite_of(given)), even_corners(game))
            self.assertEqual(all_unentered(opposite_of(given)), all_unentered(game))

    def test_alike_turned_over_the_next_mixes_end_at_no_lower_mean(self):
        chance = Random(348)
        for many in range(2, 6):
            form = any_form(chance, many, [1, 2, 3, 5])
            mix = some_mix(chance, many)
            for _ in range(3):
                told = next_mix(form, mix)
                self.assertGreaterEqual(number(mean(form, told)), number(mean(form, mix)))
                self.assertEqual(told == mix, mean(form, told) == mean(form, mix))
                mix = told
            for mix in all_unentered(form):
                self.assertEqual(next_mix(form, mix), mix)

    def test_barriers_of_unentered_mixes(self):
        for game in some_games(Random(349), 1):
            for mix in all_unentered(game):
                for other in even_corners(game):
                    if other != mix:
                        self.assertGreater(number(barrier(game, mix, other)), 0)

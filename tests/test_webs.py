from copy import deepcopy
from fractions import Fraction
from random import Random

from everyface.errors import InvalidLot, InvalidNumber, InvalidShares, InvalidWeb
from everyface.forms import is_form, led, worth
from everyface.shares import least_corners, least_faces, least_worth
from everyface.webs import (
    full_lots, heaviest, is_tied, is_web, lot_weight, place_of, tied_within, untied_form, untied_number, web_form,
)
from everyface.words import word_of
from tests.samples import (
    FaceCase, HALF, LESS, NIL, NO_FRACTIONS, NO_LOTS, NO_PLACES, ONE, OTHER_SORTS, TWO, great_number, lots_of, number,
    numbers, pair, pairs, shares_by, table,
)
from tests.web_samples import (
    ALONE, HEAVY, NO_COUNTS, NO_TIES, NO_WEBS, NO_WEIGHTS, PATH, RING, some_web, some_webs, tied_by_hand, tied_lots_of,
    untied_by_hand, weight_by_hand,
)

OF_A_WEB = (web_form, full_lots, heaviest, untied_number)
OF_A_LOT = (lot_weight, place_of, is_tied)
THREE = (3, 1)


def turned_down(value):
    """1 over a fraction."""
    return pair(1 / number(value))


class Examples(FaceCase):
    def test_the_document(self):
        self.assertEqual(
            [is_web(PATH), is_web((2, ((1, 0),), (ONE, ONE))), web_form(PATH), web_form(HEAVY)[0],
             is_tied(PATH, (0, 2)),
             lot_weight(HEAVY, (1, 2)), place_of(HEAVY, (1, 2))],
            [True, False, (((1, 1), (0, 1), (2, 1)), ((0, 1), (1, 1), (0, 1)), ((2, 1), (0, 1), (1, 1))),
             ((1, 1), (0, 1), (4, 3)), False, (4, 1), ((0, 1), (1, 4), (3, 4))])
        self.assertEqual(
            [full_lots(PATH), heaviest(PATH), heaviest(HEAVY), tied_within(PATH, (HALF, NIL, HALF)) in ((0,), (2,)),
             untied_number(PATH), untied_form(PATH, TWO)],
            [((0, 1), (1, 2)), ((2, 1), ((0, 1), (1, 2))), ((4, 1), ((1, 2),)), True, 2,
             (((1, 1), (1, 1), (-1, 1)), ((1, 1), (1, 1), (1, 1)), ((-1, 1), (1, 1), (1, 1)))])


class IsWeb(FaceCase):
    def test_webs(self):
        for web in [PATH, HEAVY, ALONE, RING] + some_webs(Random(240), 3):
            with self.subTest(web):
                self.assertIs(is_web(web), True)
        self.assertIs(is_web((2, ((0, 1),), ((1, 10 ** 399), (10 ** 399, 7)))), True)
        self.assertIs(is_web((6, tuple(lots_of(6)[k] for k in range(63) if len(lots_of(6)[k]) == 2), (ONE,) * 6)), True)

    def test_numbers_of_places(self):
        for many in range(-1, 9):
            for size in range(9):
                self.assertIs(is_web((many, (), (ONE,) * size)), many == size and 1 <= many <= 6)

    def test_other_values(self):
        for value in NO_WEBS:
            with self.subTest(value):
                self.assertIs(is_web(value), False)
        for ties in NO_TIES:
            self.assertIs(is_web((3, ties, (ONE, TWO, HALF))), False)
        for weights in NO_WEIGHTS:
            self.assertIs(is_web((3, (), weights)), False)
        for count in NO_COUNTS:
            self.assertIs(is_web((count, ((0, 1),), (ONE,) * 3)), False)


class Forms(FaceCase):
    def test_numbers(self):
        for web in some_webs(Random(241), 3):
            form = web_form(web)
            self.assertIs(is_form(form), True)
            weights = numbers(web[2])
            for i in range(web[0]):
                for j in range(web[0]):
                    told = 1 / weights[i] if i == j else 1 / weights[i] + 1 / weights[j]
                    if (min(i, j), max(i, j)) in web[1]:
                        told = 0
                    self.assertEqual(form[i][j], pair(told))

    def test_the_least_worth_is_one_over_the_greatest_weight(self):
        seen = set()
        for web in some_webs(Random(242), 3):
            with self.subTest(web):
                weight, lots = heaviest(web)
                form = web_form(web)
                self.assertEqual(least_worth(form), turned_down(weight))
                self.assertEqual(least_corners(form), tuple([place_of(web, lot) for lot in lots]))
                # Just the places of these lots: no two of them go together.
                self.assertEqual(least_faces(form), tuple([(k,) for k in range(len(lots))]))
                seen.add((web[0], len(lots) > 1))
        self.assertEqual(len(seen), 11)

    def test_the_worth_at_the_place_of_a_tied_lot(self):
        for web in some_webs(Random(243), 2):
            for lot in lots_of(web[0]):
                told = number(worth(web_form(web), place_of(web, lot)))
                if tied_by_hand(web, lot):
                    self.assertEqual(told, 1 / weight_by_hand(web, lot))
                else:
                    self.assertGreater(told, 1 / weight_by_hand(web, lot))

    def test_at_the_place_of_a_full_lot_it_leads_to_more_elsewhere(self):
        for web in some_webs(Random(244), 2):
            full = full_lots(web)
            for lot in tied_lots_of(web):
                reached = numbers(led(web_form(web), place_of(web, lot)))
                low = 1 / weight_by_hand(web, lot)
                self.assertTrue(all([reached[k] == low for k in lot]))
                others = [reached[k] > low for k in range(web[0]) if k not in lot]
                self.assertEqual(all(others), lot in full)


class Lots(FaceCase):
    def test_weights_places_and_ties(self):
        for web in some_webs(Random(245), 2):
            for lot in lots_of(web[0]):
                self.assertEqual(lot_weight(web, lot), pair(weight_by_hand(web, lot)))
                self.assertIs(is_tied(web, lot), tied_by_hand(web, lot))
                place = place_of(web, lot)
                self.are_shares(place, web[0])
                weights = numbers(web[2])
                told = [weights[k] / weight_by_hand(web, lot) if k in lot else 0 for k in range(web[0])]
                self.assertEqual(place, pairs(told))

    def test_a_lot_of_one_place_is_tied(self):
        for web in [PATH, ALONE, RING]:
            for k in range(web[0]):
                self.assertIs(is_tied(web, (k,)), True)
                self.assertEqual(place_of(web, (k,))[k], ONE)
        self.assertEqual(lot_weight(ALONE, (0,)), HALF)

    def test_lots_that_are_not_tied(self):
        self.assertIs(is_tied(PATH, (0, 1, 2)), False)
        self.assertEqual(lot_weight(HEAVY, (0, 2)), (4, 1))
        self.assertEqual(place_of(HEAVY, (0, 1, 2)), ((1, 5), (1, 5), (3, 5)))

    def test_full_lots(self):
        seen = set()
        for web in some_webs(Random(246), 4):
            told = full_lots(web)
            tied = tied_lots_of(web)
            by_hand = [lot for lot in tied if not any([set(lot) < set(other) for other in tied])]
            self.assertEqual(told, tuple(sorted(by_hand)))
            seen.add((web[0], len(told) > 1))
        self.assertEqual(len(seen), 11)
        self.assertEqual(full_lots(RING), ((0, 1), (0, 4), (1, 2), (2, 3), (3, 4), (5,)))
        self.assertEqual(full_lots((4, (), (ONE,) * 4)), ((0,), (1,), (2,), (3,)))
        self.assertEqual(full_lots((3, ((0, 1), (0, 2), (1, 2)), (ONE, TWO, HALF))), ((0, 1, 2),))
        self.assertEqual(full_lots((4, ((0, 1), (0, 2), (1, 2)), (ONE,) * 4)), ((0, 1, 2), (3,)))

    def test_heaviest(self):
        for web in some_webs(Random(247), 4):
            tied = tied_lots_of(web)
            weight = max([weight_by_hand(web, lot) for lot in tied])
            by_hand = tuple([lot for lot in tied if weight_by_hand(web, lot) == weight])
            self.assertEqual(heaviest(web), (pair(weight), by_hand))
            self.assertLessEqual(set(by_hand), set(full_lots(web)))
        self.assertEqual(heaviest(RING)[0], TWO)
        self.assertEqual(len(heaviest(RING)[1]), 5)
        self.assertEqual(heaviest(ALONE), (HALF, ((0,),)))
        # One place may weigh as much as many.
        self.assertEqual(heaviest((3, ((0, 1),), (ONE, HALF, (3, 2)))), ((3, 2), ((0, 1), (2,))))
        by = 10 ** 399
        self.assertEqual(heaviest((3, ((0, 1),), (ONE, HALF, (3 * by // 2 - 1, by)))), ((3, 2), ((0, 1),)))

    def test_untied_number(self):
        for web in some_webs(Random(248), 4):
            told = untied_number(web)
            self.assertIs(type(told), int)
            self.assertEqual(told, max([len(lot) for lot in lots_of(web[0]) if untied_by_hand(web, lot)]))
        self.assertEqual([untied_number(web) for web in (PATH, HEAVY, ALONE, RING)], [2, 2, 1, 3])
        self.assertEqual(untied_number((5, (), (ONE,) * 5)), 5)
        self.assertEqual(untied_number((2, ((0, 1),), (ONE, (9, 1)))), 1)


class Within(FaceCase):
    def is_within(self, web, shares):
        lot = tied_within(web, shares)
        self.assertIn(lot, lots_of(web[0]))
        self.assertTrue(tied_by_hand(web, lot))
        self.assertTrue(all([number(shares[k]) > 0 for k in lot]))
        form = web_form(web)
        self.assertLessEqual(number(worth(form, place_of(web, lot))), number(worth(form, shares)))

    def test_many_shares(self):
        chance = Random(249)
        for web in some_webs(chance, 2):
            places = shares_by(web[0], 3)
            for shares in chance.sample(places, min(len(places), 20)):
                with self.subTest(web=web, shares=shares):
                    self.is_within(web, shares)

    def test_places_of_lots_tied_or_not(self):
        for web in some_webs(Random(250), 1):
            for lot in lots_of(web[0]):
                self.is_within(web, place_of(web, lot))
                if tied_by_hand(web, lot):
                    # No other tied lot within it has a place of so low a worth.
                    self.assertEqual(tied_within(web, place_of(web, lot)), lot)

    def test_great_numbers(self):
        chance = Random(251)
        for many in range(1, 7):
            web = (many, some_web(chance, many, 2)[1], pairs([abs(great_number(chance)) for _ in range(many)]))
            parts = [abs(great_number(chance)) for _ in range(many)]
            self.is_within(web, pairs([part / sum(parts) for part in parts]))
            self.assertEqual(least_worth(web_form(web)), turned_down(heaviest(web)[0]))


class UntiedForms(FaceCase):
    def test_numbers(self):
        for web in some_webs(Random(252), 1):
            for t in (NIL, ONE, TWO, (7, 3), (-5, 2)):
                form = untied_form(web, t)
                self.assertIs(is_form(form), True)
                for i, row in enumerate(table(form)):
                    for j, value in enumerate(row):
                        tied = i == j or (min(i, j), max(i, j)) in web[1]
                        self.assertEqual(value, number(t) - 1 if tied else -1)

    def test_it_is_not_below_from_the_number_of_the_greatest_untied_lot_on(self):
        tiny = Fraction(1, 10 ** 60)
        for web in [PATH, HEAVY, ALONE, RING] + some_webs(Random(253), 2):
            many = untied_number(web)
            with self.subTest(web):
                for by, word in [(0, "from"), (tiny, "above"), (-tiny, "below"), (1, "above"),
                                 (Fraction(-1, 2), "below"),
                                 (Fraction(1, 3), "above"), (-many, "below"), (-many - 3, "below")]:
                    self.assertEqual(word_of(untied_form(web, pair(many + by))), word)
                # The least worth is the number over that of the places, less 1.
                self.assertEqual(least_worth(untied_form(web, (5, 1))), pair(Fraction(5, many) - 1))

    def test_weights_do_not_matter(self):
        for web in some_webs(Random(254), 1):
            plain = (web[0], web[1], (ONE,) * web[0])
            self.assertEqual(untied_form(web, (5, 3)), untied_form(plain, (5, 3)))
            self.assertEqual(untied_number(web), untied_number(plain))


class Errors(FaceCase):
    def test_web(self):
        for value in NO_WEBS:
            with self.subTest(value):
                for function in OF_A_WEB:
                    self.told(InvalidWeb, "given", value, function, value)
                    self.told(InvalidWeb, "given", value, function, web=value)
                for function in OF_A_LOT:
                    self.told(InvalidWeb, "given", value, function, value, (0,))
                    self.told(InvalidWeb, "given", value, function, lot=None, web=value)
                self.told(InvalidWeb, "given", value, tied_within, value, (ONE,))
                self.told(InvalidWeb, "given", value, tied_within, shares=None, web=value)
                self.told(InvalidWeb, "given", value, untied_form, value, ONE)
                self.told(InvalidWeb, "given", value, untied_form, number=None, web=value)

    def test_no_lot(self):
        for value in NO_LOTS:
            for function in OF_A_LOT:
                with self.subTest(value):
                    self.told(InvalidLot, "index", None, function, PATH, value)
                    self.told(InvalidLot, "index", None, function, lot=value, web=PATH)

    def test_the_first_wrong_element_of_a_lot(self):
        for function in OF_A_LOT:
            for value in NO_PLACES + [3, 4]:
                with self.subTest(value):
                    self.told(InvalidLot, "index", 0, function, PATH, (value,))
                    self.told(InvalidLot, "index", 1, function, PATH, (0, value, None))
            for lot, at in [((0, 0), 1), ((1, 0), 1), ((0, 2, 1), 2), ((0, 1, 2, 3), 3), ((0, 1, 2, 2), 3),
                            ((2, 1, 0), 1)]:
                self.told(InvalidLot, "index", at, function, PATH, lot)
            self.told(InvalidLot, "index", 0, function, ALONE, (1,))
            self.told(InvalidLot, "index", 0, function, RING, (6,))
            self.told(InvalidLot, "index", 1, function, ALONE, (0, 0))

    def test_no_shares(self):
        for value in OTHER_SORTS + [0, (), (ONE,), (ONE, NIL), (ONE, NIL, NIL, NIL), [ONE, NIL, NIL], {0: ONE}, "abc"]:
            if not (type(value) is tuple and len(value) == 3):
                with self.subTest(value):
                    self.told(InvalidShares, "index", None, tied_within, PATH, value)
                    self.told(InvalidShares, "index", None, tied_within, shares=value, web=PATH)

    def test_the_first_that_is_no_fraction_from_nought_on(self):
        for value in NO_FRACTIONS + [LESS, (-1, 3), (-1, 10 ** 399)]:
            with self.subTest(value):
                for at in range(3):
                    shares = (ONE,) * at + (value,) * (3 - at)
                    self.told(InvalidShares, "index", at, tied_within, PATH, shares)
                # The sum is looked at after all elements.
                self.told(InvalidShares, "index", 2, tied_within, PATH, (TWO, TWO, value))

    def test_another_sum_than_one(self):
        for shares in [(NIL, NIL, NIL), (ONE, ONE, NIL), (HALF, NIL, NIL), (HALF, HALF, (1, 10 ** 399)),
                       (TWO, NIL, NIL),
                       ((1, 3), (1, 3), (10 ** 60, 3 * 10 ** 60 + 1))]:
            self.told(InvalidShares, "index", None, tied_within, PATH, shares)

    def test_number(self):
        for value in NO_FRACTIONS:
            with self.subTest(value):
                self.told(InvalidNumber, "given", value, untied_form, PATH, value)
                self.told(InvalidNumber, "given", value, untied_form, number=value, web=ALONE)

    def test_the_first_wrong_argument_is_told(self):
        bad = [PATH]
        for function in OF_A_LOT + (tied_within, untied_form):
            self.told(InvalidWeb, "given", bad, function, bad, None)
        self.told(InvalidShares, "index", 0, tied_within, PATH, (LESS, TWO, None))

    def test_no_argument_is_changed(self):
        for value in [[3, [], [ONE]], {0: 3}, [[], [[]]], (3, [[0, 1]], (ONE, ONE, ONE))]:
            kept = deepcopy(value)
            for function in OF_A_WEB:
                self.told(InvalidWeb, "given", value, function, value)
            self.told(InvalidNumber, "given", value, untied_form, PATH, value)
            self.assertEqual(value, kept)
        lot = [0, 1]
        self.told(InvalidLot, "index", None, is_tied, PATH, lot)
        self.assertEqual(lot, [0, 1])

    def test_equal_calls_have_equal_results_by_name_too(self):
        for web in some_webs(Random(255), 1):
            again = (web[0], tuple([(i, j) for i, j in web[1]]), pairs(numbers(web[2])))
            for function in OF_A_WEB:
                self.assertEqual(function(web), function(web=again))
            self.assertEqual(is_web(value=web), True)
            self.assertEqual(lot_weight(lot=(0,), web=web), web[2][0])
            self.assertEqual(place_of(lot=(0,), web=web), place_of(web, (0,)))
            self.assertEqual(is_tied(lot=(0,), web=web), True)
            self.assertEqual(tied_within(shares=place_of(web, (0,)), web=web), (0,))
            self.assertEqual(untied_form(number=THREE, web=web), untied_form(web, THREE))
            for told in (web_form(web), full_lots(web), heaviest(web), heaviest(web)[1]):
                self.assertIs(type(told), tuple)

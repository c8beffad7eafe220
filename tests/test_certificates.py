from copy import deepcopy
from random import Random

from everyface.certificates import (
    certify_answer, certify_bounded, certify_cone, certify_entering, certify_heaviest, certify_hurting, certify_least,
    certify_least_over, certify_met, certify_near, certify_plus, certify_room, certify_sunk, certify_word,
)
from everyface.checker import accepts
from everyface.cones import cone_word, ways_edges
from everyface.eithers import any_answer, met_by
from everyface.errors import (
    EmptyRoom, Endless, InvalidEdges, InvalidForm, InvalidGame, InvalidNumber, InvalidQuadratic, InvalidRoom,
    InvalidRow, InvalidShares, InvalidWeb, NotAbove, NotInRoom,
)
from everyface.mixes import even_corners, is_unentered, is_unhurt
from everyface.nearby import word_near
from everyface.quadratics import is_bounded, least_of
from everyface.rooms import is_empty, told_places
from everyface.shares import least_worth
from everyface.sunk import sunk_near
from everyface.webs import heaviest
from everyface.words import is_plus, word_of
from tests.claim_samples import CLAIMS, PAPERS, resized, spoiled
from tests.mix_samples import (
    DOVE, EVEN, MEET, NO_GAMES, NO_SHARES, NO_TUPLES, OTHER_SUMS, ROCK, THIRDS, some_games, some_mix,
)
from tests.room_samples import (
    ALL, GAP, NO_QUADRATICS, NO_ROOMS, QUARTER, SQUARE, STRIP, grid_places, some_held_rooms, some_quadratic, some_rooms,
)
from tests.samples import (
    CROSS, DIP, FIRM, FLAT, FaceCase, HORN, HUMP, LESS, NIL, NO_FORMS, NO_FRACTIONS, NO_NUMBERS, ONE, OTHER_SORTS,
    SINGLE,
    TWO, any_form, form_of, great_number, many_forms, pairs, some_rows,
)
from tests.web_samples import HEAVY, NO_WEBS, some_webs

PLAIN = (NIL, NIL)
OTHERS = {"plus": "not plus", "holds": "empty", "bounded": "endless", "unentered": "entered", "unhurt": "hurt",
          "met": "barred", "answered": "unanswered"}
OTHERS.update({other: word for word, other in OTHERS.items()})
# All functions, with arguments that are right.
RIGHT = [
    (certify_word, (HUMP,)), (certify_least, (FIRM,)), (certify_plus, (CROSS,)), (certify_sunk, (DIP, FIRM, 4)),
    (certify_cone, (CROSS, ((ONE, ONE), (ONE, NIL)))), (certify_room, (GAP,)),
    (certify_bounded, ((CROSS, PLAIN), STRIP)),
    (certify_least_over, ((DIP, PLAIN), SQUARE)), (certify_near, ((DIP, PLAIN), SQUARE, (ONE, ONE))),
    (certify_heaviest, (HEAVY,)), (certify_entering, (ROCK, THIRDS)), (certify_hurting, (MEET, EVEN)),
    (certify_met, (CROSS, (LESS, ONE))), (certify_answer, (CROSS, (LESS, ONE))),
]
OF_FORMS = (certify_word, certify_least, certify_plus)
OF_MIXES = (certify_entering, certify_hurting)
OF_ROWS = (certify_met, certify_answer)


class CertificateCase(FaceCase):
    def certified(self, function, *given):
        """Looks at a certificate: it is accepted, its parts are those passed, what it excludes is not; tells both."""
        told = function(*given)
        self.assertIs(type(told), tuple)
        self.assertEqual(len(told), 2)
        claim, paper = told
        self.assertIs(type(claim), tuple)
        self.assertIs(type(paper), tuple)
        for part, passed in zip(claim[1:], given):
            self.assertIs(part, passed)
        self.assertIs(accepts(claim, paper), True)
        excluded = []
        if claim[0] in OTHERS:
            excluded = [(OTHERS[claim[0]], *claim[1:])]
        elif type(claim[-1]) is str:
            excluded = [(*claim[:-1], word) for word in ("above", "from", "below", "strict", "least", "down")]
        for other in excluded:
            if other != claim:
                self.assertIs(accepts(other, paper), False)
                self.assertIs(accepts(other, ()), False)
        return claim, paper


class Examples(FaceCase):
    def test_the_document(self):
        self.assertEqual(
            [certify_word(HUMP)[0], certify_word(HUMP)[1][0], certify_least(FIRM)[0], certify_plus(CROSS)[0][0],
             certify_room(GAP)[0][0], certify_near((DIP, PLAIN), SQUARE, (ONE, ONE))[0][4]],
            [("word", (((1, 1), (-1, 1)), ((-1, 1), (1, 1))), "from"),
             (((1, 1), (0, 1)), ((1, 2), (1, 2)), ((0, 1), (1, 1))),
             ("least", (((2, 1), (1, 1)), ((1, 1), (2, 1))), (3, 2)), "not plus", "empty", "strict"])
        self.assertEqual(
            [certify_heaviest(HEAVY)[0][2], certify_entering(ROCK, THIRDS)[0][0],
             certify_answer(CROSS, (LESS, ONE))[0][0]],
            [(4, 1), "entered", "unanswered"])


class OfForms(CertificateCase):
    def test_words_least_worths_and_plus(self):
        seen = set()
        for form in many_forms(310, 2) + [HORN, FLAT, HUMP, CROSS, FIRM, DIP, SINGLE]:
            with self.subTest(form):
                claim, _ = self.certified(certify_word, form)
                self.assertEqual(claim, ("word", form, word_of(form)))
                seen.add(claim[2])
                claim, _ = self.certified(certify_least, form)
                self.assertEqual(claim, ("least", form, least_worth(form)))
                claim, _ = self.certified(certify_plus, form)
                self.assertEqual(claim, ("plus" if is_plus(form) else "not plus", form))
                seen.add(claim[0])
        self.assertEqual(len(seen), 5)

    def test_forms_that_are_not_plus_though_not_below(self):
        claim, paper = self.certified(certify_plus, CROSS)
        self.assertIn(paper, ((ONE, NIL), (NIL, ONE)))
        # The first corner is led to noughts, another one is not.
        form = form_of([[1, -1, 0], [-1, 1, 0], [0, 0, 0]])
        self.assertEqual(self.certified(certify_plus, form)[0][0], "plus")
        form = form_of([[0, 0, 0], [0, 0, 1], [0, 1, 0]])
        self.assertEqual(self.certified(certify_plus, form)[0][0], "not plus")
        self.assertEqual(self.certified(certify_plus, HORN)[0][0], "not plus")

    def test_another_least_worth_is_refused(self):
        for form in many_forms(311, 1):
            claim, paper = certify_least(form)
            low = claim[2]
            for other in [(low[0] + low[1], low[1]), (low[0] - low[1], low[1])]:
                self.assertIs(accepts(("least", form, other), paper), False)

    def test_sunk(self):
        chance = Random(312)
        seen = set()
        for many in (1, 2, 3):
            for _ in range(8):
                form = any_form(chance, many, [-2, -1, 0, 1, 2])
                other = form_of([[2 + int(i == j) for j in range(many)] for i in range(many)])
                number = chance.choice([1, 2, 10, 10 ** 6])
                claim, paper = self.certified(certify_sunk, form, other, number)
                near = sunk_near(form, other, number)
                self.assertEqual((claim, paper), (("sunk", form, other, number, near), ()))
                for k, is_just in [(near[0] + 1, near[1]), (near[0] - 1, near[1]), (near[0], not near[1])]:
                    self.assertIs(accepts(("sunk", form, other, number, (k, is_just)), ()), False)
                seen.add(near[1])
        self.assertEqual(len(seen), 2)

    def test_cones(self):
        chance = Random(313)
        seen = set()
        for form in many_forms(314, 2):
            for size in (0, 1, 3, 6):
                rows = [row for row in some_rows(chance, len(form), size, [-1, 0, 1, 2]) if any(row)]
                claim, paper = self.certified(certify_cone, form, form_of(rows))
                self.assertEqual(claim, ("cone", form, form_of(rows), cone_word(form, form_of(rows))))
                seen.add(claim[3])
        self.assertEqual(len(seen), 3)
        # With lines the first multiples of the worth 0 may make noughts.
        line = ways_edges(2, ())
        self.assertEqual(self.certified(certify_cone, HUMP, line)[0][3], "from")
        self.assertEqual(self.certified(certify_cone, FIRM, line), (("cone", FIRM, line, "above"), ()))


class OfRooms(CertificateCase):
    def test_rooms(self):
        seen = set()
        for room in some_rooms(315, 3):
            claim, paper = self.certified(certify_room, room)
            self.assertEqual(claim[0], "empty" if is_empty(room) else "holds")
            self.assertIs(accepts((OTHERS[claim[0]], room), ()), False)
            seen.add((room[0], claim[0]))
        self.assertEqual(len(seen), 6)

    def test_quadratics(self):
        chance = Random(316)
        seen = set()
        for quadratic, room in some_held_rooms(317, 3):
            with self.subTest(quadratic=quadratic, room=room):
                claim, _ = self.certified(certify_bounded, quadratic, room)
                bounded = is_bounded(quadratic, room)
                self.assertEqual(claim[0], "bounded" if bounded else "endless")
                if bounded:
                    claim, place = self.certified(certify_least_over, quadratic, room)
                    self.assertEqual((claim[3], place), least_of(quadratic, room))
                    self.assertIs(accepts((*claim[:3], (claim[3][0] + claim[3][1], claim[3][1])), place), False)
                for place in list(told_places(room))[:2] + [pairs(row) for row in grid_places(room, chance, 2)]:
                    claim, _ = self.certified(certify_near, quadratic, room, place)
                    self.assertEqual(claim[4], word_near(quadratic, room, place))
                    seen.add((room[0], claim[4], bounded))
        self.assertGreaterEqual(len(seen), 12)


class OfWebsAndGames(CertificateCase):
    def test_webs(self):
        for web in some_webs(Random(318), 2):
            claim, paper = self.certified(certify_heaviest, web)
            weight, lots = heaviest(web)
            self.assertEqual(claim, ("heaviest", web, weight))
            self.assertIn(paper, lots)

    def test_mixes(self):
        chance = Random(319)
        seen = set()
        for game in some_games(chance, 2):
            for mix in [some_mix(chance, len(game))] + list(even_corners(game))[:3]:
                claim, _ = self.certified(certify_entering, game, mix)
                self.assertEqual(claim[0], "unentered" if is_unentered(game, mix) else "entered")
                seen.add(claim[0])
                claim, _ = self.certified(certify_hurting, game, mix)
                self.assertEqual(claim[0], "unhurt" if is_unhurt(game, mix) else "hurt")
                seen.add(claim[0])
        self.assertEqual(len(seen), 4)

    def test_tables(self):
        chance = Random(320)
        seen = set()
        for game in some_games(chance, 4):
            row = pairs([chance.choice([-1, -1, 0, 1]) for _ in game])
            claim, _ = self.certified(certify_met, game, row)
            self.assertEqual(claim[0], "barred" if met_by(game, row) is None else "met")
            seen.add(claim[0])
            claim, _ = self.certified(certify_answer, game, row)
            self.assertEqual(claim[0], "unanswered" if any_answer(game, row) is None else "answered")
            seen.add(claim[0])
        self.assertEqual(len(seen), 4)

    def test_great_numbers(self):
        chance = Random(321)
        form = any_form(chance, 3, [great_number(chance) for _ in range(6)])
        game = form_of([[great_number(chance) for _ in range(3)] for _ in range(3)])
        row = pairs([great_number(chance) for _ in range(3)])
        self.certified(certify_word, form)
        self.certified(certify_least, form)
        self.certified(certify_plus, form)
        self.certified(certify_bounded, (form, row), (3, (row,), (ONE,)))
        self.certified(certify_near, (form, row), (3, (row,), (ONE,)), (NIL,) * 3)
        self.certified(certify_met, game, row)
        self.certified(certify_answer, game, row)
        for mix in even_corners(game):
            self.certified(certify_entering, game, mix)
            self.certified(certify_hurting, game, mix)


class Kinds(CertificateCase):
    def test_all_kinds_and_their_papers_spoiled(self):
        words = set()
        for claim, right, _ in CLAIMS:
            function = {
                "word": certify_word, "least": certify_least, "plus": certify_plus, "not plus": certify_plus,
                "sunk": certify_sunk, "cone": certify_cone, "holds": certify_room, "empty": certify_room,
                "bounded": certify_bounded, "endless": certify_bounded, "least over": certify_least_over,
                "near": certify_near, "heaviest": certify_heaviest, "unentered": certify_entering,
                "entered": certify_entering, "unhurt": certify_hurting, "hurt": certify_hurting, "met": certify_met,
                "barred": certify_met, "answered": certify_answer, "unanswered": certify_answer,
            }[claim[0]]
            given = claim[1:]
            if claim[0] in ("word", "least", "sunk", "cone", "least over", "near", "heaviest"):
                given = claim[1:-1]
            told, paper = self.certified(function, *given)
            self.assertEqual(told, claim)
            for other in [*spoiled(paper), *resized(paper)]:
                self.assertIs(accepts(told, other), False)
            if () in right:
                self.assertEqual(paper, ())
            words.add(told[0])
        self.assertEqual(len(words), 21)
        self.assertGreater(len(PAPERS), 100)

    def test_equal_calls_have_equal_results_by_name_too(self):
        names = {1: {certify_room: ["room"], certify_heaviest: ["web"]},
                 2: {certify_cone: ["form", "edges"], certify_met: ["table", "row"], certify_answer: ["table", "row"],
                     certify_entering: ["game", "mix"], certify_hurting: ["game", "mix"]}}
        for function, given in RIGHT:
            plain = {1: ["form"], 2: ["quadratic", "room"], 3: ["quadratic", "room", "place"]}[len(given)]
            if function is certify_sunk:
                plain = ["form", "other", "many"]
            keys = names.get(len(given), {}).get(function, plain)
            named = {key: deepcopy(value) for key, value in reversed(list(zip(keys, given)))}
            self.assertEqual(function(*given), function(**named))
            self.assertEqual(function(*given), function(*given))


class Errors(FaceCase):
    def test_forms(self):
        for value in NO_FORMS:
            with self.subTest(value):
                for function in OF_FORMS:
                    self.told(InvalidForm, "given", value, function, value)
                self.told(InvalidForm, "given", value, certify_sunk, value, None, None)
                self.told(InvalidForm, "given", value, certify_sunk, FIRM, value, None)
                self.told(InvalidForm, "given", value, certify_cone, value, None)

    def test_sunk(self):
        self.told(InvalidForm, "given", SINGLE, certify_sunk, FIRM, SINGLE, None)
        for value in NO_NUMBERS:
            self.told(InvalidNumber, "given", value, certify_sunk, FIRM, HUMP, value)
        self.told_bare(NotAbove, certify_sunk, FIRM, HUMP, 10)
        self.told_bare(NotAbove, certify_sunk, many=1, other=DIP, form=FIRM)

    def test_edges(self):
        for value in [None, [], [(ONE, ONE)], 0, True, {}, "ab"]:
            self.told(InvalidEdges, "index", None, certify_cone, FIRM, value)
        self.told(InvalidEdges, "index", 1, certify_cone, FIRM, ((ONE, ONE), PLAIN, None))
        self.told(InvalidEdges, "index", 0, certify_cone, FIRM, ((ONE,),))
        self.told(InvalidEdges, "index", 6, certify_cone, FIRM, ((ONE, ONE),) * 8)
        for value in NO_FRACTIONS:
            self.told(InvalidEdges, "index", 2, certify_cone, FIRM, ((ONE, ONE), (ONE, NIL), (ONE, value)))

    def test_rooms(self):
        for value in NO_ROOMS:
            with self.subTest(value):
                self.told(InvalidRoom, "given", value, certify_room, value)
                for function in (certify_bounded, certify_least_over):
                    self.told(InvalidRoom, "given", value, function, (FIRM, PLAIN), value)
                self.told(InvalidRoom, "given", value, certify_near, (FIRM, PLAIN), value, None)

    def test_quadratics(self):
        for value in NO_QUADRATICS:
            with self.subTest(value):
                for function in (certify_bounded, certify_least_over):
                    self.told(InvalidQuadratic, "given", value, function, value, None)
                self.told(InvalidQuadratic, "given", value, certify_near, value, None, None)
        for function in (certify_bounded, certify_least_over):
            self.told(InvalidRoom, "given", ALL[3], function, (FIRM, PLAIN), ALL[3])
            self.told(InvalidRoom, "given", GAP, function, (FIRM, PLAIN), GAP)
            self.told_bare(EmptyRoom, function, (((LESS,),), (NIL,)), GAP)
        self.told_bare(Endless, certify_least_over, (DIP, PLAIN), QUARTER)
        quadratic = some_quadratic(Random(322), 2)
        self.told(InvalidRow, "index", None, certify_near, quadratic, SQUARE, (ONE,))
        for value in NO_FRACTIONS:
            self.told(InvalidRow, "index", 1, certify_near, quadratic, SQUARE, (TWO, value))
        self.told(InvalidRoom, "given", GAP, certify_near, quadratic, GAP, (TWO, TWO))
        self.told_bare(NotInRoom, certify_near, quadratic, SQUARE, (TWO, TWO))

    def test_webs(self):
        for value in NO_WEBS:
            self.told(InvalidWeb, "given", value, certify_heaviest, value)
            self.told(InvalidWeb, "given", value, certify_heaviest, web=value)

    def test_games(self):
        for value in NO_GAMES:
            with self.subTest(value):
                for function in OF_MIXES + OF_ROWS:
                    self.told(InvalidGame, "given", value, function, value, None)
                    self.told(InvalidGame, "given", value, function, value, EVEN)
        for function in OF_MIXES:
            for value in NO_TUPLES + OTHER_SUMS:
                self.told(InvalidShares, "index", None, function, DOVE, value)
            for value in NO_SHARES:
                self.told(InvalidShares, "index", 0, function, DOVE, (value, None))
                self.told(InvalidShares, "index", 1, function, mix=(TWO, value), game=DOVE)
        for function in OF_ROWS:
            for value in OTHER_SORTS + [(), (ONE,), (ONE, ONE, ONE), [ONE, ONE]]:
                self.told(InvalidRow, "index", None, function, FIRM, value)
            for value in NO_FRACTIONS:
                self.told(InvalidRow, "index", 0, function, FIRM, (value, None))
                self.told(InvalidRow, "index", 1, function, row=(TWO, value), table=FIRM)

    def test_no_argument_is_changed(self):
        for value in [[[ONE, ONE], [ONE, ONE]], {0: FIRM}, [[], [[]]]]:
            kept = deepcopy(value)
            for function in OF_FORMS:
                self.told(InvalidForm, "given", value, function, value)
            for function in OF_MIXES + OF_ROWS:
                self.told(InvalidGame, "given", value, function, value, EVEN)
            self.told(InvalidRoom, "given", value, certify_room, value)
            self.told(InvalidWeb, "given", value, certify_heaviest, value)
            self.assertEqual(value, kept)

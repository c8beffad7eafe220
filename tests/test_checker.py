from copy import deepcopy
from random import Random
from unittest import TestCase

from everyface.checker import accepts
from tests.claim_samples import (
    ALONG, CLAIMS, ENDS, NOT_SO, NO_PAPERS, PAPERS, resized, spoiled,
)
from tests.mix_samples import EVEN, MEET, NO_GAMES, NO_SHARES, NO_TUPLES, OTHER_SUMS, ROCK
from tests.room_samples import GAP, NO_QUADRATICS, NO_ROOMS, SQUARE, STRIP
from tests.samples import (
    CROSS, DIP, FIRM, HALF, HUMP, NIL, NO_FORMS, NO_FRACTIONS, NO_NUMBERS, ONE, OTHER_SORTS, TWO, nested,
)
from tests.web_samples import HEAVY, NO_WEBS

class Agreeing:
    """Says that it is equal to whatever it is compared with."""

    def __eq__(self, other):
        return True


WORDS = sorted({claim[0] for claim, _, _ in CLAIMS})
PLAIN = (NIL, NIL)


class Examples(TestCase):
    def test_the_document(self):
        self.assertEqual(
            [accepts(("word", DIP, "below"), (ONE, ONE)), accepts(("word", DIP, "below"), (ONE, NIL)),
             accepts(("word", HUMP, "from"), (ENDS, (TWO, TWO))), accepts(("least", FIRM, ONE), ((HALF, HALF), ())),
             accepts(("not plus", CROSS), (NIL, TWO))],
            [True, False, True, False, True])
        self.assertEqual(
            [accepts(("endless", (CROSS, PLAIN), STRIP), (PLAIN, ((-1, 1), NIL))),
             accepts(("endless", (CROSS, PLAIN), STRIP), ((NIL, ONE), ((-1, 1), NIL))),
             accepts(("heaviest", HEAVY, (4, 1)), (1, 2)), accepts(("entered", MEET, EVEN), (ONE, NIL)),
             accepts(("empty", GAP), (ONE, ONE))],
            [False, True, True, True, True])


class Papers(TestCase):
    def test_all_words_are_looked_at(self):
        self.assertEqual(WORDS, sorted([
            "word", "least", "plus", "not plus", "sunk", "cone", "holds", "empty", "bounded", "endless", "least over",
            "near", "heaviest", "unentered", "entered", "unhurt", "hurt", "met", "barred", "answered", "unanswered"]))
        self.assertEqual(sorted({claim[0] for claim in NOT_SO}), WORDS)

    def test_right_papers(self):
        for claim, right, _ in CLAIMS:
            for paper in right:
                with self.subTest(claim=claim, paper=paper):
                    self.assertIs(accepts(claim, paper), True)
                    self.assertIs(accepts(paper=paper, claim=claim), True)

    def test_papers_that_show_nothing(self):
        for claim, _, wrong in CLAIMS:
            for paper in wrong:
                with self.subTest(claim=claim, paper=paper):
                    self.assertIs(accepts(claim, paper), False)

    def test_papers_of_other_sorts(self):
        for claim, _, _ in CLAIMS:
            for paper in NO_PAPERS:
                with self.subTest(claim=claim, paper=paper):
                    self.assertIs(accepts(claim, paper), False)
            for deep in (1, 2, 3, 8, 14):
                self.assertIs(accepts(claim, nested(deep)), False)

    def test_a_part_of_a_paper_that_is_of_another_sort_or_too_many_or_too_few(self):
        for claim, right, _ in CLAIMS:
            for paper in right[:2]:
                for other in [*spoiled(paper), *resized(paper)]:
                    with self.subTest(claim=claim, paper=other):
                        self.assertIs(accepts(claim, other), False)

    def test_without_a_paper_the_empty_tuple_alone_is_accepted(self):
        bare = [(claim, right) for claim, right, _ in CLAIMS if () in right]
        self.assertEqual({claim[0] for claim, _ in bare},
                         {"plus", "sunk", "cone", "bounded", "near", "unentered", "unhurt", "unanswered"})
        for claim, right in bare:
            self.assertEqual(right, [()])
            for paper in PAPERS + [[], "", None, {}, 0, False, ((),), b"", set(), range(0)]:
                self.assertIs(accepts(claim, paper), type(paper) is tuple and paper == ())

    def test_papers_of_one_claim_for_another_one(self):
        chance = Random(300)
        for claim, right, _ in CLAIMS:
            known = {repr(paper) for other, some, _ in CLAIMS if other == claim for paper in some}
            for paper in chance.sample(PAPERS, 12):
                # What is accepted must be a paper that is as good as those that are told.
                if accepts(claim, paper):
                    self.assertTrue(repr(paper) in known or () not in right)

    def test_arguments_are_not_changed(self):
        for claim, right, _ in CLAIMS:
            given = [list(claim), right[0]]
            kept = deepcopy(given)
            self.assertIs(accepts(given[0], right[0]), False)
            self.assertIs(accepts(claim, [right[0]]), False)
            self.assertEqual(given, kept)


class Claims(TestCase):
    def refused(self, claim):
        for paper in PAPERS:
            self.assertIs(accepts(claim, paper), False)

    def test_claims_that_are_not_so_have_no_paper(self):
        for claim in NOT_SO:
            with self.subTest(claim):
                self.refused(claim)

    def test_of_claims_that_exclude_one_another_one_alone_has_a_paper(self):
        others = {"plus": "not plus", "holds": "empty", "bounded": "endless", "unentered": "entered", "unhurt": "hurt",
                  "met": "barred", "answered": "unanswered"}
        others.update({other: word for word, other in others.items()})
        for claim, right, _ in CLAIMS:
            if claim[0] in others:
                with self.subTest(claim):
                    self.refused((others[claim[0]], *claim[1:]))
            if claim[0] in ("word", "near", "cone"):
                for word in ("above", "from", "below", "strict", "least", "down"):
                    for paper in [*right, ()]:
                        self.assertEqual(accepts((*claim[:-1], word), paper), word == claim[-1] and paper in right)

    def test_claims_with_a_part_too_many_or_too_few(self):
        for claim, right, _ in CLAIMS:
            for other in [claim + ((),), claim + (ONE,), claim[:-1], claim[:1], claim + claim[-1:], claim[1:], (claim,),
                          claim + (None,), claim + claim[1:], list(claim), {0: claim}, (claim[0], claim[1:])]:
                for paper in right + [()]:
                    with self.subTest(claim=other, paper=paper):
                        self.assertIs(accepts(other, paper), False)

    def test_claims_of_unknown_words(self):
        for claim, right, _ in CLAIMS:
            word = claim[0]
            for other in [word.upper(), word + " ", "", "x" * 400, word.encode(), (word,), [word], None, True, 1, 0,
                          word.replace("o", "0") + "?"]:
                self.assertIs(accepts((other, *claim[1:]), right[0]), False)
            for other in OTHER_SORTS:
                self.assertIs(accepts((other, *claim[1:]), right[0]), False)

    def test_values_that_are_no_claims(self):
        for value in OTHER_SORTS + [(), 0, 1, "word", ("word",), ("plus",), ["plus", FIRM], ("plus", FIRM)[::-1],
                                    nested(14),
                                    ("plus", nested(13)), (nested(13), FIRM), {"plus": FIRM}, ("word", "above", FIRM)]:
            for paper in [(), None, ENDS, value, nested(14), [], True]:
                with self.subTest(claim=value, paper=paper):
                    self.assertIs(accepts(value, paper), False)

    def test_a_part_that_is_of_another_sort(self):
        for claim, right, _ in CLAIMS:
            for other in spoiled(claim):
                with self.subTest(claim=other):
                    self.assertIs(accepts(other, right[0]), False)

    def test_values_that_agree_with_all_others(self):
        for claim, right, _ in CLAIMS:
            self.assertIs(accepts(claim, Agreeing()), False)
            self.assertIs(accepts(Agreeing(), right[0]), False)
            for k in range(len(claim)):
                self.assertIs(accepts(claim[:k] + (Agreeing(),) + claim[k + 1:], right[0]), False)
        self.assertIs(accepts(("heaviest", HEAVY, (4, 1)), (1, Agreeing())), False)
        self.assertIs(accepts(("sunk", FIRM, FIRM, 1, (1, Agreeing())), ()), False)
        self.assertIs(accepts(("sunk", FIRM, FIRM, 1, (Agreeing(), True)), ()), False)

    def test_parts_however_deep(self):
        for claim, right, _ in CLAIMS:
            for k in range(1, len(claim)):
                for value in [nested(13), nested(5), *OTHER_SORTS]:
                    changed = claim[:k] + (value,) + claim[k + 1:]
                    # The one tuple without elements that is right somewhere is that of no edges.
                    if not (claim[0] == "cone" and value == ()):
                        self.assertIs(accepts(changed, right[0]), False)

    def test_first_parts_that_are_no_such_ones(self):
        for words, values in [
            (("word", "least", "plus", "not plus", "sunk", "cone"), NO_FORMS),
            (("holds", "empty"), NO_ROOMS), (("bounded", "endless", "least over", "near"), NO_QUADRATICS),
            (("heaviest",), NO_WEBS),
            (("unentered", "entered", "unhurt", "hurt", "met", "barred", "answered", "unanswered"), NO_GAMES),
        ]:
            for claim, right, _ in CLAIMS:
                if claim[0] in words:
                    for value in values:
                        for paper in [right[0], ()]:
                            self.assertIs(accepts((claim[0], value, *claim[2:]), paper), False)

    def test_later_parts_that_are_no_such_ones(self):
        for value in NO_FRACTIONS:
            self.assertIs(accepts(("least", FIRM, value), (EVEN, ENDS)), False)
            self.assertIs(accepts(("least over", (HUMP, PLAIN), STRIP, value), PLAIN), False)
            self.assertIs(accepts(("heaviest", HEAVY, value), (1, 2)), False)
            self.assertIs(accepts(("answered", FIRM, (value, NIL)), PLAIN), False)
            self.assertIs(accepts(("met", FIRM, (NIL, value)), PLAIN), False)
            self.assertIs(accepts(("near", (FIRM, PLAIN), SQUARE, (NIL, value), "strict"), ()), False)
            self.assertIs(accepts(("cone", HUMP, ((ONE, value), *ALONG[1:]), "above"), ()), False)
        for value in NO_ROOMS + [GAP]:
            self.assertIs(accepts(("bounded", (FIRM, PLAIN), value), ()), False)
            self.assertIs(accepts(("least over", (FIRM, PLAIN), value, NIL), PLAIN), False)
            self.assertIs(accepts(("near", (FIRM, PLAIN), value, PLAIN, "strict"), ()), False)
            self.assertIs(accepts(("endless", (DIP, PLAIN), value), (PLAIN, (ONE, ONE))), False)
        for value in NO_NUMBERS:
            self.assertIs(accepts(("sunk", FIRM, FIRM, value, (1, True)), ()), False)
        for value in NO_FORMS:
            self.assertIs(accepts(("sunk", FIRM, value, 1, (1, True)), ()), False)
        for value in NO_TUPLES + OTHER_SUMS + [(ONE, value) for value in NO_SHARES]:
            for word in ("unentered", "unhurt"):
                self.assertIs(accepts((word, MEET, value), ()), False)
            for word in ("entered", "hurt"):
                self.assertIs(accepts((word, MEET, value), (ONE, NIL)), False)
                self.assertIs(accepts((word, MEET, (NIL, ONE)), value), False)
        self.assertIs(accepts(("unhurt", ROCK, EVEN), ()), False)

"""Claims with papers that show them and papers that do not, and ways to spoil both, for the tests."""

from tests.mix_samples import ALL_SAME, DOVE, EVEN, MEET, ROCK, THIRD, THIRDS
from tests.room_samples import ALL, GAP, QUARTER, SQUARE, STRIP
from tests.samples import CROSS, DIP, FIRM, FLAT, HALF, HUMP, LESS, NIL, ONE, OTHER_SORTS, SINGLE, TWO, form_of, pairs
from tests.web_samples import ALONE, HEAVY, PATH

PLAIN = (NIL, NIL)
RISE, FALL = (ONE, NIL), (LESS, NIL)
ENDS = ((ONE, NIL), EVEN, (NIL, ONE))
ONES = ((ONE, ONE), (ONE, ONE))
AXES = ((ONE, NIL), (NIL, ONE))
ALONG = ((ONE, LESS), (LESS, ONE))
SLANTS = ((ONE, ONE), (ONE, LESS))
MINUS = ((LESS, NIL), (NIL, ONE))
LINE, HALF_LINE = (1, (), ()), (1, ((LESS,),), (NIL,))
UP, DOWN = (((ONE,),), (NIL,)), (((LESS,),), (NIL,))
SPAN = (1, ((ONE,), (LESS,)), (ONE, ONE))
# The rows from 0 on that are asked for on all lots of three places, for the form of ones alone.
SEVEN = form_of([[1, 0, 0], ["1/2", "1/2", 0], ["1/3", "1/3", "1/3"], ["1/2", 0, "1/2"], [0, 1, 0], [0, "1/2", "1/2"],
                 [0, 0, 1]])
UNIT = form_of([[1, 0, 0], [0, 1, 0], [0, 0, 1]])

# Each claim that is so, with papers that show it and papers that are right in their kind but show nothing.
CLAIMS = [
    (("word", FIRM, "above"), [ENDS, ((ONE, NIL), (THIRD, (2, 3)), (NIL, ONE))], [
        (), ((ONE, NIL), (NIL, ONE), EVEN), ((ONE, NIL), (ONE, NIL), (NIL, TWO)), ENDS[:2], ENDS + (EVEN,),
        (ENDS, (ONE, ONE)),
        ((TWO, NIL), EVEN, (NIL, ONE)), ((ONE, NIL), (TWO, LESS), (NIL, ONE)), ((HALF, HALF), EVEN, (NIL, ONE)), EVEN]),
    (("word", UNIT, "above"), [SEVEN], [SEVEN[:6], SEVEN[::-1], (SEVEN, (NIL, NIL, ONE)), SEVEN[:1] * 7]),
    (("word", SINGLE, "above"), [((ONE,),)], [(), ((NIL,),), ((TWO,),), (ONE,), ((ONE,), (ONE,)), ONE]),
    (("word", HUMP, "from"), [(ENDS, (ONE, ONE)), (ENDS, EVEN), (ENDS, ((1, 10 ** 399), (1, 10 ** 399)))], [
        (), ENDS, (ENDS, PLAIN), (ENDS, RISE), (ENDS, (LESS, LESS)), (ENDS,), (ENDS, (ONE, ONE), ()),
        ((ONE, ONE), ENDS),
        (((ONE, NIL), (THIRD, (2, 3)), (NIL, ONE)), (ONE, ONE)), ((), (ONE, ONE)), (ENDS, ()), (ENDS[::-1], (ONE, ONE)),
        (ENDS, (ONE, ONE, ONE)), (ENDS[:2], (ONE, ONE))]),
    (("word", CROSS, "from"), [(ENDS, RISE), (((ONE, NIL), RISE, (NIL, ONE)), (NIL, TWO))], [(ENDS, EVEN), ENDS]),
    (("word", DIP, "below"), [(ONE, ONE), EVEN, (HALF, THIRD)], [
        (), RISE, PLAIN, (LESS, LESS), (LESS, ONE), (ONE,), (ONE, ONE, ONE), ((ONE, ONE),), ENDS, (ENDS, EVEN)]),
    (("least", FIRM, (3, 2)), [(EVEN, ENDS)], [
        (), EVEN, ENDS, (EVEN, ()), ((ONE, NIL), ENDS), (EVEN, ENDS, ()), (ENDS, EVEN), ((ONE, ONE), ENDS),
        (EVEN, ((ONE, NIL), (THIRD, (2, 3)), (NIL, ONE))), (EVEN, ENDS[:2]), (EVEN, ENDS + (EVEN,))]),
    (("least", CROSS, NIL), [(RISE, ENDS), ((NIL, ONE), ((ONE, NIL), RISE, (NIL, ONE)))], [(EVEN, ENDS), (RISE, ())]),
    (("least", DIP, (-1, 2)), [(EVEN, ENDS)], [(EVEN, ((ONE, NIL), RISE, (NIL, ONE))), (RISE, ENDS), (PLAIN, ENDS)]),
    (("least", SINGLE, (5, 3)), [((ONE,), ((ONE,),))], [((ONE,), ()), ((ONE,), (ONE,)), ((TWO,), ((ONE,),))]),
    (("plus", HUMP), [()], [EVEN, (EVEN,)]),
    (("plus", FIRM), [()], [EVEN]),
    (("plus", FLAT), [()], [EVEN, PLAIN]),
    (("not plus", CROSS), [(NIL, TWO), RISE], [(), PLAIN, (ONE, ONE), (LESS, NIL), (NIL,), (NIL, TWO, NIL)]),
    (("not plus", DIP), [(ONE, ONE), EVEN, (TWO, ONE)], [(), RISE, PLAIN, (LESS, LESS)]),
    # The word is below, yet a zero that is not led to noughts will do.
    (("not plus", MINUS), [RISE, (TWO, TWO), (ONE, ONE)], [(NIL, ONE), (ONE, TWO), PLAIN, ()]),
    (("sunk", FIRM, ONES, 10, (15, True)), [()], [EVEN, ((),), (15, True)]),
    (("sunk", FIRM, ONES, 1, (1, False)), [()], [EVEN]),
    (("sunk", HUMP, FIRM, 1, (0, True)), [()], [EVEN]),
    (("sunk", DIP, FIRM, 4, (-2, False)), [()], [EVEN]),
    (("cone", DIP, SLANTS[1:] + ((ONE, NIL),), "above"), [()], [PLAIN, (ONE, ONE), ((),)]),
    (("cone", DIP, (), "above"), [()], [((),), PLAIN, ((), ())]),
    (("cone", HUMP, ALONG, "above"), [()], [(ONE, ONE), (HALF, HALF), (ONE, NIL)]),
    (("cone", CROSS, ((ONE, ONE), (ONE, NIL)), "from"), [(NIL, ONE), (NIL, (9, 7))], [
        (), PLAIN, (ONE, NIL), (ONE, ONE), (NIL, LESS), (NIL,), (NIL, ONE, NIL), ((ONE, NIL),)]),
    (("cone", HUMP, AXES + (((-1, 1), (-1, 1)),), "from"), [(ONE, ONE, NIL), (NIL, NIL, ONE), (TWO, TWO, ONE)], [
        (ONE, ONE, ONE), (NIL, NIL, NIL), (ONE, NIL, NIL), (ONE, ONE), ()]),
    (("cone", DIP, AXES, "below"), [(ONE, ONE), EVEN, (HALF, THIRD)],
     [(), PLAIN, RISE, (LESS, LESS), (ONE,), (ONE, ONE, ONE)]),
    (("holds", SQUARE), [PLAIN, EVEN, (ONE, ONE), (THIRD, NIL)],
     [(), (TWO, ONE), (LESS, NIL), (ONE,), (ONE, ONE, ONE)]),
    (("holds", LINE), [(NIL,), ((-9, 7),)], [(), (NIL, NIL), NIL]),
    (("empty", GAP), [(ONE, ONE), (TWO, TWO)],
     [(), PLAIN, (ONE, TWO), (LESS, LESS), (ONE,), (ONE, ONE, ONE), (NIL, ONE)]),
    (("empty", (1, ((NIL,), (ONE,)), (LESS, ONE))), [(ONE, NIL)], [(NIL, ONE), (ONE, ONE), (), (LESS, NIL)]),
    (("bounded", (HUMP, RISE), QUARTER), [()], [(PLAIN, RISE), PLAIN]),
    (("bounded", (DIP, PLAIN), SQUARE), [()], [(PLAIN, (ONE, ONE)), PLAIN]),
    (("endless", (CROSS, PLAIN), STRIP), [((NIL, ONE), (LESS, NIL)), ((TWO, HALF), ((-3, 7), NIL))], [
        (), (PLAIN, (LESS, NIL)), ((NIL, ONE), (ONE, NIL)), ((NIL, ONE), (LESS, ONE)), ((NIL, TWO), (LESS, NIL)),
        ((NIL, ONE),), ((NIL, ONE), (LESS, NIL), ()), ((LESS, NIL), (NIL, ONE)), ((NIL, ONE), PLAIN),
        ((ONE,), (LESS, NIL)),
        ((NIL, ONE), (LESS,)), (LESS, NIL)]),
    (("endless", DOWN, LINE), [((NIL,), (ONE,)), ((ONE,), (LESS,))], [((NIL,), (NIL,)), (NIL, ONE), ()]),
    (("endless", DOWN, HALF_LINE), [((NIL,), (ONE,))], [((NIL,), (LESS,)), ((LESS,), (ONE,))]),
    (("endless", (HUMP, FALL), QUARTER), [(PLAIN, (ONE, ONE))],
     [(PLAIN, RISE), (PLAIN, (LESS, LESS)), ((LESS, LESS), (ONE, ONE))]),
    (("least over", (DIP, PLAIN), SQUARE, (-2, 1)), [(ONE, ONE)],
     [(), PLAIN, (TWO, TWO), (ONE,), (ONE, ONE, ONE), (ONE, HALF)]),
    (("least over", (HUMP, PLAIN), STRIP, NIL), [PLAIN, EVEN, (ONE, ONE)], [(TWO, TWO), RISE, ()]),
    (("least over", DOWN, SPAN, LESS), [(ONE,), (LESS,)], [(NIL,), (TWO,), ()]),
    (("near", (DIP, PLAIN), SQUARE, (ONE, ONE), "strict"), [()], [(LESS, LESS), PLAIN]),
    (("near", (HUMP, PLAIN), SQUARE, EVEN, "least"), [()], [(ONE, ONE), PLAIN]),
    (("near", (DIP, PLAIN), SQUARE, PLAIN, "down"), [(ONE, ONE), (TWO, ONE)],
     [(), RISE, (LESS, LESS), PLAIN, (ONE,), (ONE, ONE, ONE)]),
    (("near", (DIP, PLAIN), SQUARE, EVEN, "down"), [(ONE, ONE), (ONE, NIL), (NIL, ONE)], [(), (LESS, LESS), PLAIN]),
    (("near", (CROSS, PLAIN), ALL[2], PLAIN, "down"), [(ONE, LESS), (LESS, TWO)], [(), (ONE, ONE), RISE]),
    (("near", (FIRM, PLAIN), SQUARE, (ONE, ONE), "down"), [(LESS, LESS), (LESS, NIL)],
     [(ONE, ONE), (LESS, ONE), (NIL, ONE), ()]),
    (("heaviest", HEAVY, (4, 1)), [(1, 2)],
     [(), (0, 1), (0, 2), (2,), (0, 1, 2), (2, 1), (1, 1), (1, 2, 3), (1, 3), (-1, 1), 1]),
    (("heaviest", PATH, TWO), [(0, 1), (1, 2)], [(), (0, 2), (1,), ((0, 1), (1, 2))]),
    (("heaviest", ALONE, HALF), [(0,)], [(), (1,), (0, 0), ((0,),)]),
    (("unentered", DOVE, EVEN), [()], [EVEN, RISE]),
    (("unentered", MEET, RISE), [()], [(NIL, ONE)]),
    (("entered", MEET, EVEN), [RISE, ((3, 4), (1, 4))],
     [(), (NIL, ONE), EVEN, (THIRD, (2, 3)), (ONE, ONE), (TWO, LESS), (ONE,)]),
    (("entered", MEET, (THIRD, (2, 3))), [RISE, (NIL, ONE), EVEN], [(), (THIRD, (2, 3)), PLAIN]),
    (("entered", ROCK, THIRDS), [(ONE, NIL, NIL), (HALF, HALF, NIL)], [(), THIRDS, (ONE, ONE, ONE)]),
    (("unhurt", ROCK, THIRDS), [()], [(ONE, NIL, NIL)]),
    (("unhurt", DOVE, EVEN), [()], [EVEN]),
    (("unhurt", ALL_SAME, THIRDS), [()], [THIRDS, (ONE, NIL, NIL)]),
    (("hurt", MEET, (THIRD, (2, 3))), [RISE, (NIL, ONE), EVEN], [(), (THIRD, (2, 3)), PLAIN, (ONE, ONE)]),
    (("hurt", MEET, EVEN), [RISE, ((3, 4), (1, 4))], [(), (NIL, ONE), EVEN, (THIRD, (2, 3))]),
    (("hurt", DOVE, RISE), [(NIL, ONE), EVEN], [(), RISE, (NIL, TWO)]),
    (("met", CROSS, (LESS, ONE)), [(NIL, ONE), (ONE, TWO)],
     [(), PLAIN, (LESS, ONE), (NIL, HALF), (ONE,), (NIL, ONE, NIL)]),
    (("met", FLAT, PLAIN), [PLAIN, (ONE, TWO)], [(LESS, NIL), ()]),
    (("barred", MINUS, FALL), [RISE, (TWO, NIL)],
     [(), PLAIN, (NIL, ONE), (ONE, ONE), (LESS, NIL), (ONE,), (ONE, NIL, NIL)]),
    (("answered", FIRM, (LESS, LESS)), [(THIRD, THIRD)],
     [(), PLAIN, (HALF, NIL), (ONE, ONE), (THIRD,), (THIRD, THIRD, NIL)]),
    (("answered", FLAT, PLAIN), [PLAIN, (ONE, TWO)], [(LESS, NIL), ()]),
    (("unanswered", CROSS, (LESS, ONE)), [()], [PLAIN, (NIL, ONE), ((),)]),
    (("unanswered", MINUS, FALL), [()], [RISE, PLAIN]),
]

# Claims with all parts in their places that are not so, or are no claims.
NOT_SO = [
    ("word", FIRM, "from"), ("word", FIRM, "below"), ("word", HUMP, "above"), ("word", HUMP, "below"),
    ("word", DIP, "from"),
    ("word", DIP, "above"), ("word", FIRM, "ABOVE"), ("word", FIRM, "plus"), ("word", DIP, ""), ("least", FIRM, ONE),
    ("least", FIRM, TWO), ("least", FIRM, pairs(["15/10"])[0] + (1,)), ("least", DIP, (-2, 4)), ("least", CROSS, HALF),
    ("plus", CROSS), ("plus", DIP), ("plus", MINUS), ("not plus", HUMP), ("not plus", FIRM), ("not plus", FLAT),
    ("sunk", FIRM, ONES, 10, (15, False)), ("sunk", FIRM, ONES, 10, (14, True)), ("sunk", FIRM, ONES, 10, (16, False)),
    ("sunk", FIRM, HUMP, 10, (0, True)), ("sunk", FIRM, ONES, 0, (0, True)), ("sunk", FIRM, SINGLE, 10, (15, True)),
    ("sunk", FIRM, ONES, 10 ** 6 + 1, (15 * 10 ** 5, False)), ("sunk", FIRM, ONES, 10, (15, 1)),
    ("sunk", FIRM, ONES, 1, (True, False)),
    ("sunk", HUMP, FIRM, 1, (False, True)), ("sunk", HUMP, FIRM, 1, (0, 1)), ("sunk", FIRM, ONES, 1, (1, 0)),
    ("sunk", FIRM, ONES, 10, (15, True, True)), ("sunk", FIRM, ONES, 10, (15,)), ("sunk", FIRM, ONES, True, (1, False)),
    ("cone", DIP, AXES, "above"), ("cone", DIP, AXES, "from"), ("cone", DIP, (), "from"), ("cone", DIP, (), "below"),
    ("cone", HUMP, ALONG, "from"), ("cone", CROSS, AXES, "above"), ("cone", FIRM, AXES * 4, "above"),
    ("cone", FIRM, (PLAIN,), "above"),
    ("cone", FIRM, ((ONE,),), "above"), ("cone", FIRM, AXES + (PLAIN,), "above"), ("holds", GAP), ("empty", SQUARE),
    ("empty", LINE),
    ("bounded", (CROSS, PLAIN), STRIP), ("bounded", (CROSS, PLAIN), GAP), ("bounded", UP, GAP), ("endless", DOWN, GAP),
    ("bounded", UP, QUARTER), ("endless", DOWN, QUARTER), ("endless", (HUMP, RISE), QUARTER), ("endless", DOWN, SPAN),
    ("least over", (DIP, PLAIN), SQUARE, LESS), ("least over", (DIP, PLAIN), SQUARE, (-3, 1)),
    ("least over", DOWN, LINE, (-4, 1)),
    ("least over", UP, GAP, NIL), ("least over", UP, QUARTER, NIL), ("least over", (DIP, PLAIN), SQUARE, (-4, 2)),
    ("near", (DIP, PLAIN), SQUARE, (ONE, ONE), "least"), ("near", (DIP, PLAIN), SQUARE, (ONE, ONE), "down"),
    ("near", (HUMP, PLAIN), SQUARE, EVEN, "strict"), ("near", (DIP, PLAIN), SQUARE, PLAIN, "least"),
    ("near", (DIP, PLAIN), SQUARE, (TWO, TWO), "down"), ("near", UP, GAP, (NIL,), "strict"),
    ("near", UP, SQUARE, (NIL,), "strict"),
    ("near", UP, LINE, (NIL, NIL), "strict"), ("near", UP, LINE, (NIL,), "STRICT"), ("heaviest", HEAVY, (3, 1)),
    ("heaviest", HEAVY, (5, 1)),
    ("heaviest", HEAVY, (8, 2)), ("heaviest", PATH, (3, 1)), ("unentered", ROCK, THIRDS), ("unentered", MEET, EVEN),
    ("unentered", DOVE, (ONE, ONE)), ("unentered", DOVE, (TWO, LESS)), ("unentered", DOVE, (ONE,)),
    ("entered", DOVE, EVEN),
    ("entered", MEET, RISE), ("unhurt", MEET, EVEN), ("unhurt", DOVE, RISE), ("hurt", ROCK, THIRDS),
    ("hurt", DOVE, EVEN),
    ("unhurt", ROCK, EVEN), ("met", MINUS, FALL), ("barred", CROSS, (LESS, ONE)), ("barred", FLAT, PLAIN),
    ("answered", CROSS, (LESS, ONE)),
    ("answered", MINUS, FALL), ("unanswered", FIRM, (LESS, LESS)), ("unanswered", FLAT, PLAIN), ("met", CROSS, (LESS,)),
    ("answered", FIRM, (LESS, LESS, LESS)), ("unanswered", CROSS, (LESS, ONE, ONE)), ("barred", MINUS, (LESS,)),
]

PAPERS = [paper for _, right, wrong in CLAIMS for paper in right + wrong]
NO_PAPERS = OTHER_SORTS + [0, 1, -1, (1,), ("",), ((), ()), (None,), ((None,),), [()], (True,), (True, False)]


def spoiled(value):
    """The value with one thing in it, however deep, made another sort of value: what is equal to Python among them."""
    yield None
    if type(value) is tuple:
        yield list(value)
        for k, part in enumerate(value):
            for other in spoiled(part):
                yield value[:k] + (other,) + value[k + 1:]
    elif type(value) is bool:
        yield int(value)
    elif type(value) is int:
        yield str(value)
        yield (value,)
        if value in (0, 1):
            yield bool(value)
    elif type(value) is str:
        yield value + "s"
        yield value.encode()


def resized(value):
    """The value with one tuple in it, however deep, made longer or shorter."""
    if type(value) is tuple:
        yield value + ((),)
        yield value + ((0, 1),)
        if value:
            yield value[:-1]
            yield value + value[-1:]
        for k, part in enumerate(value):
            for other in resized(part):
                yield value[:k] + (other,) + value[k + 1:]

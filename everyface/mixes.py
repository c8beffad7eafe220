"""Games and mixes: even mixes and their corners, mixes that no few others can enter or hurt, barriers, next mixes."""

from everyface.cones import word_and_low
from everyface.errors import InvalidGame, LikeMixes, NotAbove
from everyface.exact import (
    LESS, NIL, ONE, all_lots, both_ways, is_row, least, lot_of, lowest, only_solution, opposite, opposite_rows, plus,
    product_by, spread, sum_of_multiples, table_times, times, unit,
)
from everyface.shares import check_shares
from everyface.words import ABOVE, BELOW

MOST_PLACES = 5


def is_game(value):
    """Whether a value, whatever it is, is a game."""
    if type(value) != tuple or not 1 <= len(value) <= MOST_PLACES:
        return False
    return all([is_row(row, len(value)) for row in value])


def gains(game, mix):
    """What each place gets beside a mix."""
    check_game_and_mix(game, mix)
    return table_times(game, mix)


def mean(game, mix):
    """What a mix gets beside itself."""
    check_game_and_mix(game, mix)
    return product_by(game, mix, mix)


def best_answers(game, mix):
    """The lot of the places that get most beside a mix."""
    check_game_and_mix(game, mix)
    return best_of(game, mix)


def is_even(game, mix):
    """Whether no mix gets more beside a mix than it does itself."""
    check_game_and_mix(game, mix)
    return is_within_best(game, mix)


def even_corners(game):
    """All corners of the even mixes, in the order in which Python compares tuples."""
    check_game(game)
    return corners_of_even(game)


def is_unentered(game, mix):
    """Whether no mix enters a mix."""
    check_game_and_mix(game, mix)
    return enterer(game, mix) is None


def is_unhurt(game, mix):
    """Whether no mix hurts a mix."""
    check_game_and_mix(game, mix)
    return hurter(game, mix) is None


def entering(game, mix):
    """A mix that enters a mix; None if there is none."""
    check_game_and_mix(game, mix)
    return enterer(game, mix)


def hurting(game, mix):
    """A mix that hurts a mix; None if there is none."""
    check_game_and_mix(game, mix)
    return hurter(game, mix)


def all_unentered(game):
    """All mixes that none enters, in the order in which Python compares tuples."""
    check_game(game)
    # Such a mix is a corner.
    return tuple([mix for mix in corners_of_even(game) if enterer(game, mix) is None])


def barrier(game, mix, other):
    """Up to which share of another mix a mix gets more than that beside both."""
    check_game_and_mix(game, mix)
    check_shares(other, len(game))
    if mix == other:
        raise LikeMixes()
    ahead = more_beside(game, mix, other, mix)
    there = more_beside(game, mix, other, other)
    if ahead[0] >= 0 and there[0] >= 0 and (ahead, there) != (NIL, NIL):
        return ONE
    if ahead[0] > 0:
        return quotient(ahead, plus(ahead, times(LESS, there)))
    return NIL


def next_mix(game, mix):
    """The mix with each number times what its place gets, over the mean."""
    check_game_and_mix(game, mix)
    if any([number[0] <= 0 for row in game for number in row]):
        raise NotAbove()
    whole = product_by(game, mix, mix)
    return tuple([quotient(times(number, gain), whole) for number, gain in zip(mix, table_times(game, mix))])


def enters(game, mix, other):
    """Whether another mix enters a mix."""
    ahead = more_beside(game, mix, other, mix)
    there = more_beside(game, mix, other, other)
    return other != mix and (ahead[0] < 0 or (ahead == NIL and there[0] <= 0))


def hurts(game, mix, other):
    """Whether another mix hurts a mix."""
    ahead = more_beside(game, mix, other, mix)
    there = more_beside(game, mix, other, other)
    return ahead[0] < 0 or (ahead == NIL and there[0] < 0)


def quotient(one, other):
    return times(one, lowest(other[1], other[0]))


def more_beside(game, one, other, mix):
    """How much more one mix gets beside a mix than another one does."""
    return plus(product_by(game, one, mix), times(LESS, product_by(game, other, mix)))


def best_of(game, mix):
    """The lot of the places that get most beside a mix."""
    lacks = opposite(table_times(game, mix))
    fewest = least(lacks)
    return tuple([at for at, lack in enumerate(lacks) if lack == fewest])


def is_within_best(game, mix):
    """Whether the lot of a mix is within its best answers."""
    best = best_of(game, mix)
    return all([place in best for place in lot_of(mix)])


def corners_of_even(game):
    """All corners of the even mixes, in the order in which Python compares tuples."""
    corners = []
    for best in all_lots(len(game)):
        for lot in [tuple([best[k] for k in picks]) for picks in all_lots(len(best))]:
            mix = only_alike(game, lot, best)
            if mix is not None and lot_of(mix) == lot and best_of(game, mix) == best:
                corners.append(mix)
    return tuple(sorted(corners))


def only_alike(game, lot, best):
    """The only mix, 0 off a lot, beside which some places get alike; None if not just one row of the sum 1 is such."""
    # The last unknown is what these places get; it is taken off each side.
    rows = [[game[i][j] for j in lot] + [LESS] for i in best]
    rows.append([ONE] * len(lot) + [NIL])
    solved = only_solution(rows, [NIL] * len(best) + [ONE])
    if solved is None or any([number[0] < 0 for number in solved[:-1]]):
        return None
    return spread(solved[:-1], lot, len(game))


def enterer(game, mix):
    """A mix that enters a mix; None if there is none."""
    if not is_within_best(game, mix):
        return best_alone(game, mix)
    word, change = word_of_changes(game, mix)
    if word == ABOVE:
        return None
    return changed(mix, change)


def hurter(game, mix):
    """A mix that hurts a mix; None if there is none."""
    if not is_within_best(game, mix):
        return best_alone(game, mix)
    word, change = word_of_changes(game, mix)
    if word != BELOW:
        return None
    return changed(mix, change)


def best_alone(game, mix):
    """The mix of one place alone that gets most beside a mix."""
    return unit(best_of(game, mix)[0], len(game))


def word_of_changes(game, mix):
    """The word of the opposite game on the cone of all changes, and a change that shows that it is not above; None.

    The changes are the rows of the sum 0 that take an even mix to mixes that get as much beside it as it does.
    """
    return word_and_low(opposite_rows(both_ways(game)), changes(mix, best_of(game, mix)))


def changes(mix, best):
    """Edges of the cone of the rows of the sum 0 that are 0 off the best answers and from 0 on off the lot of a mix."""
    many = len(mix)
    lot = lot_of(mix)
    others = [place for place in best if place not in lot]
    edges = [step(lot[0], place, many) for place in others]
    # Around the lot: these make noughts, so each opposite is a sum of others.
    if len(lot) > 1:
        edges += [step(place, lot[k - 1], many) for k, place in enumerate(lot)]
    return edges


def step(giver, taker, many):
    """The change of one mix that is all at one place to another one that is all at another place."""
    return sum_of_multiples((unit(giver, many), unit(taker, many)), (LESS, ONE))


def changed(mix, change):
    """The mix with as much of a change as can be made."""
    limits = [quotient(number, times(LESS, more)) for number, more in zip(mix, change) if more[0] < 0]
    return sum_of_multiples((mix, change), (ONE, least(limits)))


def check_game(game):
    if not is_game(game):
        raise InvalidGame(game)


def check_game_and_mix(game, mix):
    check_game(game)
    check_shares(mix, len(game))

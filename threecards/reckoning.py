"""What a game comes to when it's over."""

from threecards.cards import holds
from threecards.playing import points_so_far
from threecards.rules import trumps
from threecards.words import DONE, NOBODY, NULL, OVER, REFUSED, SAID_OPEN, SAID_SCHNEIDER, SAID_SCHWARZ

# Null's base serves an overbid game alone.
BASES = (9, 10, 11, 12, 24, 23)
ALL_TRICKS = 10


def result(game):
    if game.phase != OVER:
        return [REFUSED]
    comes_to = reckoned(game)
    return [DONE, abs(comes_to), 1 if comes_to < 0 else 0]


def reckoned(game):
    if game.alone == NOBODY:
        return 0
    worth = worth_of(game)
    if worth < game.bid:
        return -2 * least_multiple(BASES[game.declared], game.bid)
    if is_won(game):
        return worth
    return -2 * worth


def least_multiple(base, bid):
    """The least multiple of the base that's the bid or more."""
    return (bid + base - 1) // base * base


def worth_of(game):
    if game.declared == NULL:
        return worth_of_null(game)
    return BASES[game.declared] * times(game)


def worth_of_null(game):
    if has_said(game, SAID_OPEN):
        return 59 if game.from_hand else 46
    return 35 if game.from_hand else 23


def times(game):
    points = points_so_far(game)
    schneider_said = has_said(game, SAID_SCHNEIDER)
    schwarz_said = has_said(game, SAID_SCHWARZ)
    more = [
        game.from_hand,
        points >= 90 or points <= 30 or schneider_said,
        schneider_said,
        game.tricks == ALL_TRICKS or game.tricks == 0 or schwarz_said,
        schwarz_said,
        has_said(game, SAID_OPEN),
    ]
    return tops(game) + 1 + more.count(True)


def tops(game):
    """How many trumps from the highest down are in one's cards or not, as the jack of clubs is."""
    order = trumps(game.declared)
    with_highest = holds(game.had, order[0])
    found = 0
    while found < len(order) and holds(game.had, order[found]) == with_highest:
        found += 1
    return found


def is_won(game):
    if game.declared == NULL:
        return game.tricks == 0
    if has_said(game, SAID_SCHWARZ):
        return game.tricks == ALL_TRICKS
    if has_said(game, SAID_SCHNEIDER):
        return points_so_far(game) >= 90
    return points_so_far(game) >= 61


def has_said(game, what):
    return game.said & what != 0

"""What a game shows of itself in every phase: hands, and its state."""

from threecards.cards import counted
from threecards.playing import points_so_far, whose_turn
from threecards.words import (
    AWAY, LAST_WORD_AWAITED, NOBODY, OVER, PLAYERS, PLAYING, REFUSED, REPLY_AWAITED, VALUE_AWAITED,
)


def hand(game, who):
    if who == AWAY:
        return counted(game.away)
    if 0 <= who < PLAYERS:
        return counted(game.hands[who])
    return [REFUSED]


def state(game):
    # Two cards lie away before it's declared too, but their points are nobody's then.
    points = 0 if game.declared is None else points_so_far(game)
    return [game.phase, who_acts(game), game.alone, game.bid, points, game.tricks, len(game.trick)]


def who_acts(game):
    if game.phase == VALUE_AWAITED:
        return game.bidder
    if game.phase == REPLY_AWAITED:
        return game.hearer
    if game.phase == LAST_WORD_AWAITED:
        return 0
    if game.phase == PLAYING:
        return whose_turn(game)
    if game.phase == OVER:
        return NOBODY
    return game.alone

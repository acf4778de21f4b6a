"""What the one who plays alone does ahead of the play: the two cards, and the declaration."""

from threecards.cards import holds, set_of
from threecards.words import (
    DECLARATION_AWAITED, GAMES, LAYING_AWAITED, NULL, PLAYING, REFUSED, TAKING_AWAITED,
)

# Sums of what is announced: 1 schneider, 2 schwarz, 4 open.
SAID_IN_NULL = (0, 4)
SAID_FROM_HAND = (0, 1, 3, 7)
SAID_WITH_CARDS_TAKEN = (0,)


def take(game, yes):
    if game.phase != TAKING_AWAITED:
        return REFUSED
    if yes == 0:
        game.from_hand = True
        game.phase = DECLARATION_AWAITED
        return game.phase
    game.hands[game.alone] = game.hands[game.alone] | game.away
    game.away = 0
    game.phase = LAYING_AWAITED
    return game.phase


def lay(game, a, b):
    if game.phase != LAYING_AWAITED:
        return REFUSED
    hand = game.hands[game.alone]
    if a == b or not holds(hand, a) or not holds(hand, b):
        return REFUSED
    game.away = set_of([a, b])
    game.hands[game.alone] = hand ^ game.away
    game.phase = DECLARATION_AWAITED
    return game.phase


def declare(game, declared, said):
    if game.phase != DECLARATION_AWAITED:
        return REFUSED
    if declared not in GAMES or said not in sayable(declared, game.from_hand):
        return REFUSED
    game.declared = declared
    game.said = said
    game.phase = PLAYING
    return game.phase


def sayable(declared, from_hand):
    if declared == NULL:
        return SAID_IN_NULL
    if from_hand:
        return SAID_FROM_HAND
    return SAID_WITH_CARDS_TAKEN

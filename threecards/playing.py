"""The play: ten tricks, or in null fewer where the one who plays alone takes one."""

from threecards.cards import cards_in, counted, holds, points_of, set_of
from threecards.rules import place_that_takes, playable_in_trick, strengths
from threecards.words import NULL, OVER, PLAYERS, PLAYING, REFUSED


def whose_turn(game):
    return (game.leader + len(game.trick)) % PLAYERS


def playable_now(game):
    return playable_in_trick(game.declared, game.hands[whose_turn(game)], game.trick)


def legal(game):
    if game.phase != PLAYING:
        return [REFUSED]
    return counted(playable_now(game))


def play(game, card):
    if game.phase != PLAYING or not holds(playable_now(game), card):
        return REFUSED
    who = whose_turn(game)
    game.hands[who] = game.hands[who] ^ set_of([card])
    game.trick.append(card)
    if len(game.trick) == PLAYERS:
        end_trick(game)
    return game.phase


def end_trick(game):
    place = place_that_takes(strengths(game.declared, game.trick[0]), game.trick)
    game.leader = (game.leader + place) % PLAYERS
    if game.leader == game.alone:
        game.taken = game.taken | set_of(game.trick)
        game.tricks += 1
    game.trick = []
    if is_played_out(game):
        game.phase = OVER


def is_played_out(game):
    if game.declared == NULL and game.tricks > 0:
        return True
    return game.hands == [0, 0, 0]


def points_so_far(game):
    """The points of the one who plays alone."""
    return points_of(cards_in(game.taken | game.away))

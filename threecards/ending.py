"""Endings, played out with all cards open: the one who plays alone against the two others."""

from threecards.cards import ALL_CARDS, ALL_POINTS, cards_in, points_of, set_of
from threecards.playing import points_so_far, whose_turn
from threecards.rules import followers, place_that_takes, playable, strengths
from threecards.words import NULL, PLAYERS, PLAYING, REFUSED, TOO_MANY_CARDS

MOST_CARDS = 15


class Ending:
    def __init__(self, game):
        self.null = game.declared == NULL
        self.alone = game.alone
        self.hands = list(game.hands)
        self.following = [set_of(followers(game.declared, led)) for led in range(ALL_CARDS)]
        self.strong = [strengths(game.declared, led) for led in range(ALL_CARDS)]
        # Points to come; in null 1 where no trick has to be taken, else 0.
        self.most = 1 if self.null else ALL_POINTS
        # By the cards left and who leads: the least and the most that may come, as far as it's known.
        # The same cards are left behind tricks in many an order.
        self.bounds = {}


def sure(game):
    if game.phase != PLAYING:
        return REFUSED
    left = game.hands[0] | game.hands[1] | game.hands[2]
    if len(cards_in(left)) > MOST_CARDS:
        return TOO_MANY_CARDS
    if game.ending is None:
        game.ending = Ending(game)
    # Nothing lies outside of 0 and the most, so what comes is told exactly.
    comes = best_in_trick(game.ending, left, game.trick, whose_turn(game), 0, game.ending.most)
    return comes if game.declared == NULL else points_so_far(game) + comes


def best_in_trick(ending, left, trick, who, low, high):
    """What comes with best play if that's between low and high; else, on their far side, a bound of it."""
    if len(trick) == PLAYERS:
        return after_trick(ending, left, trick, who, low, high)
    best = 0 if who == ending.alone else ending.most
    for card in cards_in(playable_here(ending, left, trick, who)):
        comes = best_in_trick(ending, left ^ (1 << card), trick + [card], (who + 1) % PLAYERS, low, high)
        if who == ending.alone:
            best = max(best, comes)
            low = max(low, best)
        else:
            best = min(best, comes)
            high = min(high, best)
        # One side would sooner play otherwise, further up: no other card matters here.
        if low >= high:
            break
    return best


def playable_here(ending, left, trick, who):
    hand = ending.hands[who] & left
    if len(trick) == 0:
        return hand
    return playable(hand, ending.following[trick[0]])


def after_trick(ending, left, trick, leader, low, high):
    taker = (leader + place_that_takes(ending.strong[trick[0]], trick)) % PLAYERS
    if taker != ending.alone:
        return best_from(ending, left, taker, low, high)
    if ending.null:
        return 0
    gained = points_of(trick)
    return gained + best_from(ending, left, taker, low - gained, high - gained)


def best_from(ending, left, leader, low, high):
    """The same as in a trick, at its beginning."""
    if left == 0:
        return 1 if ending.null else 0
    bounds = ending.bounds.get((left, leader), (0, ending.most))
    floor = bounds[0]
    roof = bounds[1]
    if floor >= high or floor == roof:
        return floor
    if roof <= low:
        return roof
    best = best_in_trick(ending, left, [], leader, low, high)
    if best > low:
        floor = best
    if best < high:
        roof = best
    ending.bounds[(left, leader)] = (floor, roof)
    return best

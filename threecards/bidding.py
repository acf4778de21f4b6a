"""The bidding: who is left plays alone, for the last value that was said."""

from threecards.words import LAST_WORD_AWAITED, OVER, REFUSED, REPLY_AWAITED, TAKING_AWAITED, VALUE_AWAITED

VALUES = (
    18, 20, 22, 23, 24, 27, 30, 33, 35, 36, 40, 44, 45, 46, 48, 50, 54, 55, 59, 60, 63, 66, 70, 72, 77, 80, 81, 84,
    88, 90, 96, 99, 100, 108, 110, 117, 120, 121, 126, 130, 132, 135, 140, 143, 144, 150, 153, 154, 156, 160, 162,
    165, 168, 170, 176, 180, 187, 192, 198, 204, 216, 240, 264,
)
PASS = 0
HOLD = 1
LAST_WORD = 18
SECOND_BIDDER = 2


def speak(game, x):
    if game.phase == VALUE_AWAITED:
        return say_value(game, x)
    if game.phase == REPLY_AWAITED:
        return reply(game, x)
    if game.phase == LAST_WORD_AWAITED:
        return say_last_word(game, x)
    return REFUSED


def say_value(game, x):
    if x == PASS:
        return go_on_with(game, game.hearer)
    if x not in VALUES or x <= game.bid:
        return REFUSED
    game.bid = x
    game.phase = REPLY_AWAITED
    return game.phase


def reply(game, x):
    if x == PASS:
        return go_on_with(game, game.bidder)
    if x != HOLD:
        return REFUSED
    game.phase = VALUE_AWAITED
    return game.phase


def say_last_word(game, x):
    if x == PASS:
        game.phase = OVER
        return game.phase
    if x != LAST_WORD:
        return REFUSED
    game.bid = LAST_WORD
    return play_alone(game, 0)


def go_on_with(game, left):
    if game.bidder != SECOND_BIDDER:
        game.bidder = SECOND_BIDDER
        game.hearer = left
        game.phase = VALUE_AWAITED
        return game.phase
    # Without a value 1 and 2 have passed, so the one who is left is 0.
    if game.bid == 0:
        game.phase = LAST_WORD_AWAITED
        return game.phase
    return play_alone(game, left)


def play_alone(game, who):
    game.alone = who
    game.had = game.hands[who] | game.away
    game.phase = TAKING_AWAITED
    return game.phase

"""Calls on one game, read from a list of whole numbers and answered in another."""

from threecards.bidding import speak
from threecards.cards import is_whole_deck
from threecards.declaring import declare, lay, take
from threecards.ending import sure
from threecards.game import Game
from threecards.playing import legal, play
from threecards.reckoning import result
from threecards.telling import hand, state
from threecards.words import DONE, NO_GAME, REFUSED

BEGIN = 0
DEAL = 1
SPEAK = 2
TAKE = 3
LAY = 4
DECLARE = 5
PLAY = 6
LEGAL = 7
HAND = 8
STATE = 9
RESULT = 10

# How many whole numbers stand behind each call's own; deal's row is reckoned apart.
NUMBERS_TOLD = (0, 0, 1, 1, 2, 2, 1, 0, 1, 0, 0, 0)


class Desk:
    def __init__(self):
        self.game = None


def answers(calls):
    desk = Desk()
    given = []
    at = 0
    while at < len(calls):
        end = end_of_call(calls, at)
        answer = answer_call(desk, calls[at:end])
        given.append(len(answer))
        given.extend(answer)
        at = end
    return given


def end_of_call(calls, at):
    if calls[at] == DEAL:
        return at + 2 + max(0, calls[at + 1])
    return at + 1 + NUMBERS_TOLD[calls[at]]


def answer_call(desk, call):
    if call[0] == BEGIN:
        desk.game = None
        return [DONE]
    if call[0] == DEAL:
        return [deal(desk, call[2:])]
    if desk.game is None:
        return [NO_GAME]
    if call[0] <= PLAY:
        return [move(desk.game, call)]
    return tell(desk.game, call)


def deal(desk, cards):
    if not is_whole_deck(cards):
        return REFUSED
    desk.game = Game(cards)
    return DONE


def move(game, call):
    if call[0] == SPEAK:
        return speak(game, call[1])
    if call[0] == TAKE:
        return take(game, call[1])
    if call[0] == LAY:
        return lay(game, call[1], call[2])
    if call[0] == DECLARE:
        return declare(game, call[1], call[2])
    return play(game, call[1])


def tell(game, call):
    if call[0] == LEGAL:
        return legal(game)
    if call[0] == HAND:
        return hand(game, call[1])
    if call[0] == STATE:
        return state(game)
    if call[0] == RESULT:
        return result(game)
    return [sure(game)]

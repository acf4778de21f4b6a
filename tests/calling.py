"""Writes calls down, runs them, and reads the answers."""

from threecards.desk import answers

BEGIN = [0]

# 11 is odd, so every card from 0 to 31 comes up just once.
CARDS = [(11 * place + 5) % 32 for place in range(32)]
OTHER_CARDS = list(reversed(CARDS))
HANDS = [CARDS[:10], CARDS[10:20], CARDS[20:30]]
AWAY = CARDS[30:]

VALUES = [
    18, 20, 22, 23, 24, 27, 30, 33, 35, 36, 40, 44, 45, 46, 48, 50, 54, 55, 59, 60, 63, 66, 70, 72, 77, 80, 81, 84,
    88, 90, 96, 99, 100, 108, 110, 117, 120, 121, 126, 130, 132, 135, 140, 143, 144, 150, 153, 154, 156, 160, 162,
    165, 168, 170, 176, 180, 187, 192, 198, 204, 216, 240, 264,
]

LEAST = -2147483648
MOST = 2147483647


def deal(cards=CARDS):
    return [1, len(cards)] + cards


def speak(x):
    return [2, x]


def take(yes):
    return [3, yes]


def lay(a, b):
    return [4, a, b]


def declare(game, said):
    return [5, game, said]


def play(card):
    return [6, card]


LEGAL = [7]
STATE = [9]
RESULT = [10]
SURE = [11]


def hand(who):
    return [8, who]


def spoken(*words):
    return [speak(word) for word in words]


NEW = [BEGIN, deal()]

# How each player comes to play alone for 18.
ALONE = (
    NEW + spoken(0, 0, 18),
    NEW + spoken(18, 0, 0),
    NEW + spoken(0, 18, 0),
)

# For each phase, calls that lead to it; 1 plays alone where anyone does.
PATHS = {
    0: NEW,
    1: NEW + spoken(18),
    2: NEW + spoken(0, 0),
    3: ALONE[1],
    4: ALONE[1] + [take(1)],
    5: ALONE[1] + [take(0)],
    6: ALONE[1] + [take(0), declare(4, 0)],
    7: NEW + spoken(0, 0, 0),
}


def flat(calls):
    return [number for call in calls for number in call]


def split(given):
    """The list that answers() gave back, as one list for each call."""
    found = []
    at = 0
    while at < len(given):
        end = at + 1 + given[at]
        assert given[at] >= 1 and end <= len(given), given
        found.append(given[at + 1:end])
        at = end
    return found


def run(calls):
    """What each call answers, where each answers one number."""
    found = split(answers(flat(calls)))
    assert len(found) == len(calls), (calls, found)
    assert all(len(answer) == 1 for answer in found), found
    return [answer[0] for answer in found]


def last(calls):
    return run(calls)[-1]


def ends(path, probes):
    """What the probes answer behind the path."""
    return run(path + probes)[len(path):]


def cards_to_lay(path):
    """The cards that lay allows behind a path that ends in phase 4."""
    allowed = []
    for card in range(32):
        others = [other for other in range(32) if other != card]
        if any(last(path + [lay(card, other)]) == 5 for other in others):
            allowed.append(card)
    return allowed

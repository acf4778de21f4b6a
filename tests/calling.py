"""Writes calls down, runs them, and reads the answers; and tells the rules of the play a second time."""

from threecards.desk import answers

BEGIN = [0]

# 11 is odd, so every card from 0 to 31 comes up just once.
CARDS = [(11 * place + 5) % 32 for place in range(32)]
OTHER_CARDS = list(reversed(CARDS))
HANDS = [CARDS[:10], CARDS[10:20], CARDS[20:30]]
AWAY = CARDS[30:]

VALUES = [
    18, 20, 22, 23, 24, 27, 30, 33, 35, 36, 40, 44, 45, 46, 48, 50, 54, 55, 59, 60, 63, 66, 70, 72, 77, 80, 81, 84,
    88, 90, 96, 99, 100, 108, 110, 117, 120, 121, 126, 130, 132, 135, 140, 143, 144, 150, 153, 154, 156, 160, 162,
    165, 168, 170, 176, 180, 187, 192, 198, 204, 216, 240, 264,
]

LEAST = -2147483648
MOST = 2147483647


def deal(cards=CARDS):
    return [1, len(cards)] + cards


def speak(x):
    return [2, x]


def take(yes):
    return [3, yes]


def lay(a, b):
    return [4, a, b]


def declare(game, said):
    return [5, game, said]


def play(card):
    return [6, card]


LEGAL = [7]
STATE = [9]
RESULT = [10]
SURE = [11]


def hand(who):
    return [8, who]


# Every call that shows something of a game.
LOOKS = [LEGAL, hand(0), hand(1), hand(2), hand(3), STATE, RESULT, SURE]


def spoken(*words):
    return [speak(word) for word in words]


NEW = [BEGIN, deal()]

# How each player comes to play alone for 18.
ALONE = (
    NEW + spoken(0, 0, 18),
    NEW + spoken(18, 0, 0),
    NEW + spoken(0, 18, 0),
)

# For each phase, calls that lead to it; 1 plays alone where anyone does.
PATHS = {
    0: NEW,
    1: NEW + spoken(18),
    2: NEW + spoken(0, 0),
    3: ALONE[1],
    4: ALONE[1] + [take(1)],
    5: ALONE[1] + [take(0)],
    6: ALONE[1] + [take(0), declare(4, 0)],
    7: NEW + spoken(0, 0, 0),
}


def flat(calls):
    return [number for call in calls for number in call]


def split(given):
    """The list that answers() gave back, as one list for each call."""
    found = []
    at = 0
    while at < len(given):
        end = at + 1 + given[at]
        assert given[at] >= 1 and end <= len(given), given
        found.append(given[at + 1:end])
        at = end
    return found


def told(calls):
    """What each call answers, a list for each."""
    found = split(answers(flat(calls)))
    assert len(found) == len(calls), (calls, found)
    return found


def told_behind(path, probes):
    """What the probes answer behind the path, a list for each."""
    return told(path + probes)[len(path):]


def run(calls):
    """What each call answers, where each answers one number."""
    found = told(calls)
    assert all(len(answer) == 1 for answer in found), found
    return [answer[0] for answer in found]


def last(calls):
    return run(calls)[-1]


def ends(path, probes):
    """What the probes answer behind the path."""
    return run(path + probes)[len(path):]


def cards_to_lay(path):
    """The cards that lay allows behind a path that ends in phase 4."""
    allowed = []
    for card in range(32):
        others = [other for other in range(32) if other != card]
        if any(last(path + [lay(card, other)]) == 5 for other in others):
            allowed.append(card)
    return allowed


# The cards by name: D diamonds, H hearts, S spades, C clubs, then the rank, T a ten.
SUITS = "DHSC"
RANKS = "789QKTAJ"
GRAND = 4
NULL = 5


def card(name):
    return 8 * SUITS.index(name[0]) + RANKS.index(name[1])


def cards(names):
    return [card(name) for name in names.split()]


def plays(names):
    return [play(number) for number in cards(names)]


def bits(numbers):
    return sum(1 << number for number in numbers)


def counted(numbers):
    """A set as calls answer it."""
    return [len(numbers), bits(numbers)]


def draws(seed):
    """Endless numbers that are the same for the same seed."""
    while True:
        seed = (seed * 1103515245 + 12345) % 2147483648
        yield seed >> 8


def shuffled(seed):
    drawn = draws(seed)
    return [number for key, number in sorted((next(drawn), number) for number in range(32))]


def points(numbers):
    return sum({"Q": 3, "K": 4, "T": 10, "A": 11, "J": 2}.get(RANKS[number % 8], 0) for number in numbers)


def is_trump(game, number):
    return game != NULL and (RANKS[number % 8] == "J" or number // 8 == game)


def height(game, number):
    rank = RANKS[number % 8]
    if game == NULL:
        return "789TJQKA".index(rank)
    return 10 + number // 8 if rank == "J" else "789QKTA".index(rank)


def follows(game, led, number):
    if is_trump(game, led) or is_trump(game, number):
        return is_trump(game, led) and is_trump(game, number)
    return led // 8 == number // 8


class Table:
    """A declared game in play, by a second telling of the rules."""

    def __init__(self, game, alone, hands, away):
        self.game = game
        self.alone = alone
        self.hands = [list(numbers) for numbers in hands]
        self.trick = []
        self.leader = 0
        self.points = points(away)
        self.tricks = 0
        self.over = False

    def copy(self):
        other = Table(self.game, self.alone, self.hands, [])
        other.trick = list(self.trick)
        other.leader, other.points, other.tricks, other.over = self.leader, self.points, self.tricks, self.over
        return other

    def turn(self):
        return (self.leader + len(self.trick)) % 3

    def allowed(self):
        mine = self.hands[self.turn()]
        if not self.trick:
            return list(mine)
        return [number for number in mine if follows(self.game, self.trick[0], number)] or list(mine)

    def play(self, number):
        self.hands[self.turn()].remove(number)
        self.trick.append(number)
        if len(self.trick) == 3:
            self.take_trick()

    def take_trick(self):
        able = [number for number in self.trick if is_trump(self.game, number)]
        able = able or [number for number in self.trick if follows(self.game, self.trick[0], number)]
        highest = max(able, key=lambda number: height(self.game, number))
        self.leader = (self.leader + self.trick.index(highest)) % 3
        if self.leader == self.alone:
            self.points += points(self.trick)
            self.tricks += 1
        self.trick = []
        self.over = not any(self.hands) or (self.game == NULL and self.tricks > 0)


def bid_for(alone, value):
    """How a player comes to play alone for a value."""
    return spoken(*((value, 1, 0, 0), (value, 0, 0), (0, value, 0))[alone])


# A deal in which each has something of everything.
EVEN = (
    cards("CJ HJ CA CT C9 SA S7 HA HT D9"),
    cards("SJ CK C8 ST SK S8 HK H7 DA D7"),
    cards("DJ CQ C7 SQ S9 HQ H9 H8 DT DK"),
    cards("DQ D8"),
)
# Ten tricks of it: grand that 0 wins with 61 points, null that 0 wins, and null that 0 loses with the last trick.
GRAND_PLAYED = "HT HK HQ CT C8 CQ SA S8 S9 HJ SJ DJ ST SQ S7 D7 DT D9 DK C9 DA SK H8 CA CK C7 CJ HA H7 H9"
NULL_WON = "HT HK H9 D7 DJ D9 S9 S7 SJ DA DT SA CK C7 C9 C8 CQ CT DK CJ ST SQ HJ SK S8 H8 HA H7 HQ CA"
NULL_LOST_LATE = "CT C8 CQ DK D9 DA SJ SQ S7 H8 HT HK CK C7 CJ D7 DJ HJ DT HA H7 HQ CA S8 H9 C9 ST S9 SA SK"
NULL_LOST = "CA CK C7"

# A deal in which 0 takes all tricks in clubs, hearts and grand, with the cards in the order in which they stand.
STRONG = (
    cards("CJ SJ HJ DJ CA CT CK CQ C9 C8"),
    cards("HA HT HK SA ST SK SQ S9 S8 S7"),
    cards("HQ H9 H8 H7 DA DT DK DQ D9 D8"),
    cards("C7 D7"),
)


def in_play(game, alone=0, dealt=EVEN, said=0, bid=18, laid=None):
    """Calls up to the first card: from the hand, or with two cards laid away."""
    two = [take(0)] if laid is None else [take(1), lay(*laid)]
    return [BEGIN, deal(sum(dealt, []))] + bid_for(alone, bid) + two + [declare(game, said)]

"""What is known of one game, from its deal on."""

from threecards.cards import set_of
from threecards.words import NOBODY, VALUE_AWAITED


class Game:
    def __init__(self, cards):
        self.hands = [set_of(cards[:10]), set_of(cards[10:20]), set_of(cards[20:30])]
        self.away = set_of(cards[30:])
        self.phase = VALUE_AWAITED
        self.bidder = 1
        self.hearer = 0
        self.bid = 0
        self.alone = NOBODY
        # The cards that the one who plays alone had with the two: tops are counted when these are played long since.
        self.had = 0
        self.from_hand = False
        self.declared = None
        self.said = 0
        self.leader = 0
        self.trick = []
        # Cards and tricks that the one who plays alone has taken.
        self.taken = 0
        self.tricks = 0
        self.ending = None

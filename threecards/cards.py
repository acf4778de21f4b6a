"""Sets of cards: whole numbers with bit c for card c."""

ALL_CARDS = 32
RANKS_OF_A_SUIT = 8
POINTS = (0, 0, 0, 3, 4, 10, 11, 2)
ALL_POINTS = 120


def set_of(cards):
    bits = 0
    for card in cards:
        bits = bits | (1 << card)
    return bits


def holds(bits, card):
    # Any number may be told as a card, and a shift takes none below 0.
    return card >= 0 and (bits >> card) & 1 == 1


def cards_in(bits):
    cards = []
    while bits != 0:
        cards.append(bits.bit_length() - 1)
        bits = bits ^ (1 << cards[-1])
    return cards


def counted(bits):
    """A set as calls answer it: how many cards, then the set."""
    return [len(cards_in(bits)), bits]


def points_of(cards):
    return sum([POINTS[card % RANKS_OF_A_SUIT] for card in cards])


def is_whole_deck(cards):
    return sorted(cards) == list(range(ALL_CARDS))

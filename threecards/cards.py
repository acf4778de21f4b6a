"""Sets of cards: whole numbers with bit c for card c."""

ALL_CARDS = 32


def set_of(cards):
    bits = 0
    for card in cards:
        bits = bits | (1 << card)
    return bits


def holds(bits, card):
    # Any number may be told as a card, and a shift takes none below 0.
    return card >= 0 and (bits >> card) & 1 == 1


def is_whole_deck(cards):
    return sorted(cards) == list(range(ALL_CARDS))

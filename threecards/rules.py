"""What is trump, what follows a card that's led, and which card takes a trick."""

from threecards.cards import ALL_CARDS, RANKS_OF_A_SUIT, set_of
from threecards.words import GRAND, NULL

# All from the highest down.
JACKS = (31, 23, 15, 7)
RANKS = (6, 5, 4, 3, 2, 1, 0)
RANKS_IN_NULL = (6, 4, 3, 7, 5, 2, 1, 0)


def trumps(declared):
    """The trumps of a game, from the highest down."""
    if declared == NULL:
        return []
    if declared == GRAND:
        return list(JACKS)
    return list(JACKS) + cards_of_suit(declared, RANKS)


def cards_of_suit(suit, ranks):
    return [RANKS_OF_A_SUIT * suit + rank for rank in ranks]


def followers(declared, led):
    """The cards that follow what's led, from the highest down."""
    if led in trumps(declared):
        return trumps(declared)
    ranks = RANKS_IN_NULL if declared == NULL else RANKS
    return cards_of_suit(led // RANKS_OF_A_SUIT, ranks)


def playable(hand, following):
    """The cards of a hand that may be played where these follow."""
    if hand & following == 0:
        return hand
    return hand & following


def playable_in_trick(declared, hand, trick):
    if len(trick) == 0:
        return hand
    return playable(hand, set_of(followers(declared, trick[0])))


def strengths(declared, led):
    """For each card how strong it is where this one is led: 0 if it can't take the trick."""
    strong = [0] * ALL_CARDS
    # Where a trump is led the trumps stand here twice, both times in the same order.
    for place, card in enumerate(trumps(declared) + followers(declared, led)):
        strong[card] = ALL_CARDS - place
    return strong


def place_that_takes(strong, trick):
    """Where in the trick its strongest card lies."""
    shown = [strong[card] for card in trick]
    return shown.index(max(shown))

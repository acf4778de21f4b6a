"""What a game keeps of promises 2 to 6 that no call of theirs shows."""

import unittest

from calling import AWAY, CARDS, HANDS, OTHER_CARDS
from threecards.bidding import speak
from threecards.declaring import declare, lay, take
from threecards.game import Game


def bits(cards):
    return sum(1 << card for card in cards)


def game_of(*words):
    game = Game(CARDS)
    for word in words:
        speak(game, word)
    return game


class Kept(unittest.TestCase):
    def test_the_deal(self):
        for cards in (CARDS, OTHER_CARDS, list(range(32))):
            game = Game(cards)
            self.assertEqual(game.hands, [bits(cards[:10]), bits(cards[10:20]), bits(cards[20:30])])
            self.assertEqual(game.away, bits(cards[30:]))
            self.assertEqual((game.alone, game.bid, game.declared, game.said), (3, 0, None, 0))

    def test_who_plays_alone_and_for_what(self):
        for words, alone, bid in (
            ((0, 0, 18), 0, 18), ((0, 0, 0), 3, 0), ((18, 0, 0), 1, 18), ((18, 1, 20, 0, 0), 1, 20),
            ((18, 1, 0, 20, 0), 2, 20), ((18, 1, 0, 20, 1, 0), 0, 20), ((0, 264, 0), 2, 264), ((18, 1, 0), 3, 18),
        ):
            with self.subTest(words=words):
                game = game_of(*words)
                self.assertEqual((game.alone, game.bid), (alone, bid))

    def test_two_cards_left(self):
        game = game_of(18, 0, 0)
        take(game, 0)
        self.assertEqual((game.hands[1], game.away), (bits(HANDS[1]), bits(AWAY)))

    def test_two_cards_taken_and_two_laid_away(self):
        for laid in (AWAY, HANDS[1][:2], [HANDS[1][9], AWAY[0]]):
            with self.subTest(laid=laid):
                game = game_of(18, 0, 0)
                take(game, 1)
                self.assertEqual((game.hands[1], game.away), (bits(HANDS[1] + AWAY), 0))
                lay(game, *laid)
                self.assertEqual((game.hands[1], game.away), (bits(HANDS[1] + AWAY) - bits(laid), bits(laid)))
                self.assertEqual((game.hands[0], game.hands[2]), (bits(HANDS[0]), bits(HANDS[2])))

    def test_the_declaration(self):
        game = game_of(18, 0, 0)
        take(game, 0)
        declare(game, 3, 2)
        self.assertEqual((game.declared, game.said), (None, 0))
        declare(game, 3, 7)
        self.assertEqual((game.declared, game.said, game.from_hand), (3, 7, True))


if __name__ == "__main__":
    unittest.main()

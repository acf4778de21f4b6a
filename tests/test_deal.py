"""Promise 2: deal."""

import unittest

from calling import (
    ALONE, AWAY, BEGIN, CARDS, HANDS, LEAST, OTHER_CARDS, PATHS, cards_to_lay, deal, declare, ends, last, lay, run,
    speak, spoken, take,
)

WAYS_TO_BE_ALONE = (spoken(0, 0, 18), spoken(18, 0, 0), spoken(0, 18, 0))


class Dealt(unittest.TestCase):
    def test_a_deal_answers_0(self):
        for cards in (CARDS, OTHER_CARDS, list(range(32)), list(range(31, -1, -1))):
            with self.subTest(cards=cards):
                self.assertEqual(run([BEGIN, deal(cards)]), [0, 0])

    def test_who_has_which_cards(self):
        for cards in (CARDS, OTHER_CARDS, list(range(32))):
            for alone, words in enumerate(WAYS_TO_BE_ALONE):
                with self.subTest(cards=cards, alone=alone):
                    found = cards_to_lay([BEGIN, deal(cards)] + words + [take(1)])
                    self.assertEqual(found, sorted(cards[10 * alone:10 * alone + 10] + cards[30:]))

    def test_1_is_to_say_a_value(self):
        # 0 passes what 1 says, and it's 1 who has the hand then.
        path = [BEGIN, deal()] + spoken(18, 0, 0) + [take(1)]
        self.assertEqual(cards_to_lay(path), sorted(HANDS[1] + AWAY))

    def test_a_game_needs_no_begin_of_its_own(self):
        self.assertEqual(run([deal(), speak(18)]), [0, 1])


class NotDealt(unittest.TestCase):
    def wrong_deals(self):
        for place in (0, 9, 10, 19, 20, 29, 30, 31):
            for card in (CARDS[(place + 1) % 32], CARDS[(place + 17) % 32], 32, 33, 63, 64, 128, 254, 255):
                yield CARDS[:place] + [card] + CARDS[place + 1:]
        yield [0] * 32
        yield [255] * 32
        yield list(range(1, 33))
        yield list(range(224, 256))
        # Each card's bits are there, and yet one twice and one above 31.
        yield list(range(30)) + [30, 31 + 32]

    def test_a_card_twice_or_above_31(self):
        for cards in self.wrong_deals():
            with self.subTest(cards=cards):
                self.assertEqual(run([BEGIN, deal(cards), speak(18)]), [0, -1, -4])

    def test_the_same_while_a_game_is_under_way(self):
        for phase, path in PATHS.items():
            for cards in self.wrong_deals():
                with self.subTest(phase=phase, cards=cards):
                    self.assertEqual(ends(path, [deal(cards)]), [-1])

    def test_the_game_under_way_goes_on(self):
        wrong = [deal(cards) for cards in self.wrong_deals()][:20]
        self.assertEqual(ends(PATHS[0] + wrong, spoken(18, 1, 18, 20)), [1, 0, -1, 1])
        self.assertEqual(ends(PATHS[1] + wrong, spoken(1, 18, 20)), [0, -1, 1])
        self.assertEqual(ends(PATHS[2] + wrong, spoken(20, 18)), [-1, 3])
        self.assertEqual(ends(PATHS[3] + wrong, [take(1)]), [4])
        self.assertEqual(cards_to_lay(ALONE[2] + [take(1)] + wrong), sorted(HANDS[2] + AWAY))
        self.assertEqual(ends(PATHS[5] + wrong, [declare(4, 2), declare(4, 7)]), [-1, 6])
        self.assertEqual(last(PATHS[7] + wrong + [speak(0)]), -1)

    def test_other_lengths(self):
        for cards in ([], [0], CARDS[:31], CARDS + [0], CARDS + [32], CARDS + CARDS):
            with self.subTest(cards=cards):
                self.assertEqual(run([BEGIN, deal(cards), BEGIN, deal(), speak(18)]), [0, -1, 0, 0, 1])

    def test_a_length_below_0_is_an_empty_list(self):
        for length in (-1, -2, -32, LEAST):
            with self.subTest(length=length):
                self.assertEqual(run([BEGIN, [1, length], speak(18), deal(), [1, length], speak(18)]),
                                 [0, -1, -4, 0, -1, 1])


class DealtAnew(unittest.TestCase):
    def test_the_bidding_begins_anew(self):
        high = [BEGIN, deal()] + spoken(264, 1)
        self.assertEqual(ends(high, [deal()] + spoken(18, 1, 20)), [0, 1, 0, 1])

    def test_1_bids_to_0_again(self):
        path = PATHS[7] + [deal(OTHER_CARDS)] + spoken(18, 0, 0) + [take(1)]
        self.assertEqual(cards_to_lay(path), sorted(OTHER_CARDS[10:20] + OTHER_CARDS[30:]))

    def test_cards_taken_are_not_kept(self):
        path = PATHS[4] + [lay(*HANDS[1][:2]), deal()] + spoken(18, 0, 0) + [take(1)]
        self.assertEqual(cards_to_lay(path), sorted(HANDS[1] + AWAY))

    def test_from_the_hand_is_not_kept(self):
        again = [deal()] + spoken(18, 0, 0) + [take(1), lay(*AWAY), declare(4, 1), declare(4, 0)]
        self.assertEqual(ends(PATHS[5], again)[-2:], [-1, 6])


if __name__ == "__main__":
    unittest.main()

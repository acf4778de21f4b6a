"""Promises 4 and 5: take and lay."""

import unittest

from calling import ALONE, AWAY, HANDS, LEAST, MOST, PATHS, cards_to_lay, declare, ends, last, lay, take


class Take(unittest.TestCase):
    def test_0_leaves_the_two_cards(self):
        for alone in range(3):
            with self.subTest(alone=alone):
                self.assertEqual(last(ALONE[alone] + [take(0)]), 5)

    def test_others_take_them(self):
        for alone in range(3):
            for yes in (1, 2, 3, 255, 256, 65536, MOST, -1, -2, LEAST):
                with self.subTest(alone=alone, yes=yes):
                    self.assertEqual(last(ALONE[alone] + [take(yes)]), 4)

    def test_left_there_is_nothing_to_lay(self):
        path = ALONE[1] + [take(0)]
        for cards in (AWAY, HANDS[1][:2], [HANDS[1][0], AWAY[0]]):
            self.assertEqual(last(path + [lay(*cards)]), -1)

    def test_left_is_from_the_hand_and_taken_is_not(self):
        self.assertEqual(ends(ALONE[1], [take(0), declare(4, 1)]), [5, 6])
        self.assertEqual(ends(ALONE[1], [take(1), lay(*AWAY), declare(4, 1)]), [4, 5, -1])
        self.assertEqual(ends(ALONE[1], [take(-1), lay(*AWAY), declare(4, 1)]), [4, 5, -1])

    def test_just_once(self):
        for first in (0, 1):
            for again in (0, 1):
                with self.subTest(first=first, again=again):
                    self.assertEqual(last(ALONE[1] + [take(first), take(again)]), -1)

    def test_a_second_word_does_not_count(self):
        self.assertEqual(ends(ALONE[1], [take(0), take(1), lay(*AWAY), declare(4, 7)]), [5, -1, -1, 6])
        self.assertEqual(
            ends(ALONE[1], [take(1), take(0), lay(*AWAY), take(0), declare(4, 7), declare(4, 0)]),
            [4, -1, 5, -1, -1, 6],
        )

    def test_outside_its_phase(self):
        for phase, path in PATHS.items():
            if phase != 3:
                for yes in (0, 1, -1):
                    with self.subTest(phase=phase, yes=yes):
                        self.assertEqual(last(path + [take(yes)]), -1)


class Lay(unittest.TestCase):
    def test_any_two_different_of_the_twelve(self):
        for alone in range(3):
            mine = HANDS[alone] + AWAY
            for a in range(-2, 35):
                for b in range(-2, 35):
                    allowed = a != b and a in mine and b in mine
                    with self.subTest(alone=alone, a=a, b=b):
                        self.assertEqual(last(ALONE[alone] + [take(1), lay(a, b)]), 5 if allowed else -1)

    def test_the_same_two_as_taken(self):
        for alone in range(3):
            path = ALONE[alone] + [take(1)]
            self.assertEqual(last(path + [lay(AWAY[0], AWAY[1])]), 5)
            self.assertEqual(last(path + [lay(AWAY[1], AWAY[0])]), 5)

    def test_two_equal_cards(self):
        for card in HANDS[1] + AWAY:
            with self.subTest(card=card):
                self.assertEqual(last(PATHS[4] + [lay(card, card)]), -1)

    def test_numbers_that_are_no_cards(self):
        card = HANDS[1][0]
        for other in (LEAST, LEAST + card, -32, -1, 32, 33, 63, 64, 255, 256, MOST):
            with self.subTest(other=other):
                self.assertEqual(last(PATHS[4] + [lay(card, other)]), -1)
                self.assertEqual(last(PATHS[4] + [lay(other, card)]), -1)
        # A number that is a card of the hand but for whole rounds of 32.
        for turn in (-32, 32, 64, 256):
            self.assertEqual(last(PATHS[4] + [lay(card, HANDS[1][1] + turn)]), -1)

    def test_a_refusal_lays_nothing_away(self):
        mine = HANDS[1]
        wrong = [lay(mine[0], mine[0]), lay(mine[0], HANDS[0][0]), lay(HANDS[2][0], mine[1]), lay(-1, mine[2])]
        self.assertEqual(cards_to_lay(PATHS[4] + wrong), sorted(mine + AWAY))

    def test_just_once(self):
        path = PATHS[4] + [lay(*AWAY)]
        self.assertEqual(ends(path, [lay(*HANDS[1][:2]), lay(*AWAY)]), [-1, -1])

    def test_outside_its_phase(self):
        for phase, path in PATHS.items():
            if phase != 4:
                for cards in (AWAY, HANDS[0][:2], HANDS[1][:2], HANDS[2][:2]):
                    with self.subTest(phase=phase, cards=cards):
                        self.assertEqual(last(path + [lay(*cards)]), -1)


if __name__ == "__main__":
    unittest.main()

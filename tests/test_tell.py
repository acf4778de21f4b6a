"""Promises 9 and 10: hand and state."""

import unittest

from calling import (
    AWAY, BEGIN, CARDS, EVEN, GRAND, GRAND_PLAYED, HANDS, LEAST, MOST, NEW, NULL, OTHER_CARDS, PATHS, STATE, cards,
    counted, deal, declare, hand, in_play, lay, plays, points, spoken, take, told, told_behind,
)

ALL_HANDS = [hand(0), hand(1), hand(2), hand(3)]
HEARTS = 1

# What is said, and then the phase, who is to act, who plays alone, the last value.
BIDDING = (
    ((), (0, 1, 3, 0)),
    ((18,), (1, 0, 3, 18)),
    ((18, 1), (0, 1, 3, 18)),
    ((18, 1, 20), (1, 0, 3, 20)),
    ((18, 0), (0, 2, 3, 18)),
    ((18, 0, 20), (1, 1, 3, 20)),
    ((18, 0, 20, 1), (0, 2, 3, 20)),
    ((18, 0, 20, 0), (3, 2, 2, 20)),
    ((18, 0, 20, 1, 0), (3, 1, 1, 20)),
    ((18, 0, 0), (3, 1, 1, 18)),
    ((18, 1, 0), (0, 2, 3, 18)),
    ((18, 1, 0, 264), (1, 0, 3, 264)),
    ((18, 1, 0, 264, 1), (0, 2, 3, 264)),
    ((18, 1, 0, 264, 0), (3, 2, 2, 264)),
    ((18, 1, 0, 0), (3, 0, 0, 18)),
    ((0,), (0, 2, 3, 0)),
    ((0, 18), (1, 0, 3, 18)),
    ((0, 18, 1), (0, 2, 3, 18)),
    ((0, 18, 1, 0), (3, 0, 0, 18)),
    ((0, 18, 0), (3, 2, 2, 18)),
    ((0, 0), (2, 0, 3, 0)),
    ((0, 0, 18), (3, 0, 0, 18)),
    ((0, 0, 0), (7, 3, 3, 0)),
)
WAYS_TO_BE_ALONE = ((0, 0, 18), (18, 0, 0), (0, 18, 0))


def hands_now(path):
    return told_behind(path, ALL_HANDS)


class Hand(unittest.TestCase):
    def test_as_dealt(self):
        for dealt in (CARDS, OTHER_CARDS, list(range(32))):
            expected = [counted(dealt[:10]), counted(dealt[10:20]), counted(dealt[20:30]), counted(dealt[30:])]
            self.assertEqual(hands_now([BEGIN, deal(dealt)]), expected)

    def test_the_same_while_it_is_bid(self):
        expected = [counted(numbers) for numbers in HANDS + [AWAY]]
        for words, ignored in BIDDING:
            with self.subTest(words=words):
                self.assertEqual(hands_now(NEW + spoken(*words)), expected)

    def test_the_two_cards_taken_laid_away_or_left(self):
        for alone, words in enumerate(WAYS_TO_BE_ALONE):
            path = NEW + spoken(*words)
            expected = [counted(numbers) for numbers in HANDS + [AWAY]]
            with self.subTest(alone=alone):
                for left in ([take(0)], [take(0), declare(GRAND, 7)]):
                    self.assertEqual(hands_now(path + left), expected)
                mine = HANDS[alone] + AWAY
                expected[alone] = counted(mine)
                expected[3] = [0, 0]
                self.assertEqual(hands_now(path + [take(1)]), expected)
                for laid in (AWAY, HANDS[alone][:2], [HANDS[alone][3], AWAY[1]]):
                    expected[alone] = counted([number for number in mine if number not in laid])
                    expected[3] = counted(laid)
                    self.assertEqual(hands_now(path + [take(1), lay(*laid)]), expected)
                    self.assertEqual(hands_now(path + [take(1), lay(*laid), declare(NULL, 0)]), expected)

    def test_cards_that_are_played_are_gone(self):
        path = in_play(GRAND, 0)
        played = cards(GRAND_PLAYED)
        for count in range(31):
            gone = played[:count]
            expected = [counted([number for number in numbers if number not in gone]) for numbers in EVEN]
            with self.subTest(count=count):
                self.assertEqual(hands_now(path + plays(GRAND_PLAYED)[:count]), expected)

    def test_behind_the_end(self):
        path = in_play(GRAND, 0) + plays(GRAND_PLAYED)
        self.assertEqual(hands_now(path), [[0, 0], [0, 0], [0, 0], counted(cards("DQ D8"))])
        path = in_play(NULL, 0, laid=cards("C9 D8")) + plays("CA CK C7")
        self.assertEqual(hands_now(path), [
            counted(cards("CJ HJ CT SA S7 HA HT D9 DQ")), counted(cards("SJ C8 ST SK S8 HK H7 DA D7")),
            counted(cards("DJ CQ SQ S9 HQ H9 H8 DT DK")), counted(cards("C9 D8")),
        ])

    def test_of_others(self):
        for phase, path in PATHS.items():
            for who in (-1, -2, -3, 4, 5, 7, 8, 32, 255, 256, 259, LEAST, MOST):
                with self.subTest(phase=phase, who=who):
                    self.assertEqual(told(path + [hand(who)])[-1], [-1])

    def test_without_a_game(self):
        for who in (-1, 0, 1, 2, 3, 4):
            self.assertEqual(told([BEGIN, hand(who)]), [[0], [-4]])

    def test_it_changes_nothing(self):
        for phase, path in PATHS.items():
            asked = ALL_HANDS + [hand(-1), hand(4), STATE]
            found = told_behind(path, asked + asked)
            with self.subTest(phase=phase):
                self.assertEqual(found[:7], found[7:])


class State(unittest.TestCase):
    def test_while_it_is_bid(self):
        for words, expected in BIDDING:
            with self.subTest(words=words):
                found = told(NEW + spoken(*words) + [STATE])[-1]
                self.assertEqual(found, list(expected) + [0, 0, 0])

    def test_a_value_that_is_refused_is_not_the_last(self):
        self.assertEqual(told(NEW + spoken(18, 1, 18, 19, 265) + [STATE])[-1], [0, 1, 3, 18, 0, 0, 0])

    def test_before_it_is_declared_points_are_0(self):
        # An ace and a ten lie away.
        laid = cards("CA HT")
        for alone, words in enumerate(WAYS_TO_BE_ALONE):
            dealt = sum([EVEN[(who - alone) % 3] for who in range(3)], []) + EVEN[3]
            path = [BEGIN, deal(dealt)] + spoken(*words)
            with self.subTest(alone=alone):
                self.assertEqual(told_behind(path, [STATE, take(1), STATE, lay(*laid), STATE]), [
                    [3, alone, alone, 18, 0, 0, 0], [4], [4, alone, alone, 18, 0, 0, 0], [5],
                    [5, alone, alone, 18, 0, 0, 0],
                ])
                self.assertEqual(told_behind(path, [take(0), STATE]), [[5], [5, alone, alone, 18, 0, 0, 0]])

    def test_once_declared_the_points_that_lie_away_count(self):
        for game in range(6):
            for alone in range(3):
                left = told(in_play(game, alone, bid=36) + [STATE])[-1]
                laid = EVEN[alone][:3:2]
                taken = told(in_play(game, alone, bid=40, laid=laid) + [STATE])[-1]
                with self.subTest(game=game, alone=alone):
                    self.assertEqual(left, [6, 0, alone, 36, 3, 0, 0])
                    self.assertEqual(taken, [6, 0, alone, 40, points(laid), 0, 0])

    def test_points_of_each_rank(self):
        for names, expected in (
            ("D7 D8", 0), ("D9 DQ", 3), ("DK D7", 4), ("DT D7", 10), ("DA D7", 11), ("DJ D7", 2), ("DA HA", 22),
            ("CJ SJ", 4), ("HT CA", 21), ("SK SQ", 7), ("C7 C8", 0), ("S9 H9", 0), ("H7 S8", 0),
        ):
            laid = cards(names)
            rest = [number for number in range(32) if number not in laid]
            path = in_play(GRAND, 1, (rest[:10], rest[10:20], rest[20:], laid), laid=laid)
            with self.subTest(names=names):
                self.assertEqual(told(path + [STATE])[-1], [6, 0, 1, 18, expected, 0, 0])

    def test_a_whole_game(self):
        calls = in_play(GRAND, 0, bid=22)
        start = len(calls)
        for call in plays(GRAND_PLAYED):
            calls = calls + [STATE, call]
        states = told(calls + [STATE])[start::2]
        turns = [0, 1, 2] * 3 + [0, 1, 2, 1, 2, 0, 1, 2, 0, 2, 0, 1, 1, 2, 0, 1, 2, 0, 0, 1, 2]
        # 3 lie away; 17, 13 and 11 come in with the first tricks, 6 and 11 with the last ones.
        gained = [3, 20, 33, 44, 44, 44, 44, 44, 44, 50]
        counts = [0, 1, 2, 3, 3, 3, 3, 3, 3, 4]
        for place in range(30):
            trick = place // 3
            with self.subTest(place=place):
                self.assertEqual(states[place], [6, turns[place], 0, 22, gained[trick], counts[trick], place % 3])
        self.assertEqual(states[30], [7, 3, 0, 22, 61, 5, 0])

    def test_the_others_tricks_are_not_counted(self):
        # The same cards, with 1 and with 2 alone, to whom the first three tricks don't go.
        for alone in (1, 2):
            path = in_play(GRAND, alone) + plays(GRAND_PLAYED)
            self.assertEqual(told(path[:-21] + [STATE])[-1], [6, 0, alone, 18, 3, 0, 0])
        self.assertEqual(told(in_play(GRAND, 1) + plays(GRAND_PLAYED) + [STATE])[-1][4:], [52, 4, 0])
        self.assertEqual(told(in_play(GRAND, 2) + plays(GRAND_PLAYED) + [STATE])[-1][4:], [13, 1, 0])

    def test_null_that_is_lost(self):
        path = in_play(NULL, 0, bid=20) + plays("CA CK C7")
        self.assertEqual(told(path + [STATE])[-1], [7, 3, 0, 20, 18, 1, 0])
        path = in_play(NULL, 0, bid=20) + plays("HT HK H9")
        self.assertEqual(told(path + [STATE])[-1], [6, 1, 0, 20, 3, 0, 0])

    def test_without_a_game(self):
        self.assertEqual(told([STATE, BEGIN, STATE, deal(), STATE, BEGIN, STATE]), [
            [-4], [0], [-4], [0], [0, 1, 3, 0, 0, 0, 0], [0], [-4],
        ])

    def test_seven_numbers_in_every_phase(self):
        for phase, path in PATHS.items():
            found = told(path + [STATE])[-1]
            self.assertEqual((len(found), found[0]), (7, phase))

    def test_a_game_dealt_anew_begins_anew(self):
        path = in_play(HEARTS, 2, bid=36) + plays("HT HK")
        self.assertEqual(told_behind(path, [STATE, deal(), STATE]),
                         [[6, 2, 2, 36, 3, 0, 2], [0], [0, 1, 3, 0, 0, 0, 0]])


if __name__ == "__main__":
    unittest.main()

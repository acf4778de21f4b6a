"""Promise 12: sure."""

import unittest

from calling import (
    BEGIN, EVEN, GRAND, GRAND_PLAYED, LOOKS, NULL, NULL_LOST_LATE, NULL_WON, PATHS, STATE, STRONG, SURE, Table, cards,
    deal, draws, in_play, play, plays, shuffled, told, told_behind,
)

DIAMONDS, HEARTS, SPADES, CLUBS = range(4)

# Whole games of the even deal: which, who plays alone, the cards in turn.
GRAND_OF_0 = (GRAND, 0, GRAND_PLAYED)
HEARTS_OF_1 = (HEARTS, 1, "CT C8 C7 HA SJ DJ HK H9 CJ HT H7 H8 SA SK SQ S7 ST S9 D7 DK D9 HQ HJ CK C9 S8 CQ DT CA DA")
SPADES_OF_2 = (SPADES, 2, "C9 C8 CQ DJ S7 ST SQ CJ SK HT HK H8 CA CK C7 SA S8 S9 HA H7 H9 HJ SJ DT D7 DK D9 HQ CT DA")
NULL_WON_BY_0 = (NULL, 0, NULL_WON)
NULL_LOST_BY_0 = (NULL, 0, NULL_LOST_LATE)
WHOLE = (GRAND_OF_0, HEARTS_OF_1, SPADES_OF_2, NULL_WON_BY_0, NULL_LOST_BY_0)

FIVE_TRICKS_OF_STRONG = "CJ HA HQ SJ HT H9 HJ HK H8 DJ SA H7 CA ST DA"


def sure_of(whole, count, names=""):
    """What sure answers behind that many cards of a whole game, and these."""
    game, alone, played = whole
    path = in_play(game, alone) + plays(played)[:count] + plays(names)
    return told(path + [SURE])[-1]


def most(table, low=-1, high=200):
    """What comes with best play, by trying every card, but where it can't matter any more."""
    if table.over:
        return int(table.tricks == 0) if table.game == NULL else table.points
    mine = table.turn() == table.alone
    best = -1 if mine else 200
    for number in table.allowed():
        after = table.copy()
        after.play(number)
        found = most(after, low, high)
        best = max(best, found) if mine else min(best, found)
        low = max(low, best) if mine else low
        high = high if mine else min(high, best)
        if low >= high:
            break
    return best


def cards_in_hands(table):
    return sum(len(numbers) for numbers in table.hands)


class Ending:
    """A drawn game, played until there are that many cards in hands, or it's over."""

    def __init__(self, game, alone, seed, count):
        drawn = draws(seed)
        dealt = shuffled(seed)
        dealt = (dealt[:10], dealt[10:20], dealt[20:30], dealt[30:])
        self.calls = in_play(game, alone, dealt)
        self.table = Table(game, alone, dealt[:3], dealt[3])
        while not self.table.over and cards_in_hands(self.table) > count:
            allowed = self.table.allowed()
            if game == NULL:
                # Low cards of the one alone and high ones of the others, so that more games come this far.
                allowed = sorted(allowed, key=lambda number: "789TJQKA".index("789QKTAJ"[number % 8]))
                allowed = allowed[:1] if self.table.turn() == alone else allowed[-2:]
            self.play(allowed[next(drawn) % len(allowed)])

    def play(self, number):
        self.calls = self.calls + [play(number)]
        self.table.play(number)


def endings(games, count, seeds):
    for game in games:
        for alone in range(3):
            for seed in seeds:
                ending = Ending(game, alone, seed, count)
                if not ending.table.over:
                    yield ending


class ByHand(unittest.TestCase):
    def test_grand_within_three_tricks(self):
        # 0 has 44 points and CA CJ HA, 1 leads from SK CK H7, 2 has H8 C7 H9: all three tricks are 0's.
        self.assertEqual(sure_of(GRAND_OF_0, 21), [76])
        self.assertEqual(sure_of(GRAND_OF_0, 21, "CK"), [76])
        self.assertEqual(sure_of(GRAND_OF_0, 21, "H7"), [76])
        self.assertEqual(sure_of(GRAND_OF_0, 21, "SK"), [76])
        self.assertEqual(sure_of(GRAND_OF_0, 21, "SK H8"), [76])
        # With the jack 0 takes the king; an ace thrown in goes to 1 with it.
        self.assertEqual(sure_of(GRAND_OF_0, 21, "SK H8 CJ"), [76])
        self.assertEqual(sure_of(GRAND_OF_0, 21, "SK H8 CA"), [61])
        self.assertEqual(sure_of(GRAND_OF_0, 21, "SK H8 HA"), [61])

    def test_the_others_play_together(self):
        # 1 has 28 points and S8 DA, 0 leads from C9 CA, 2 has CQ DT. With CA and C9 0 takes both tricks;
        # with C9 2 would take one, and lead DT to the ace.
        self.assertEqual(sure_of(HEARTS_OF_1, 24), [28])
        self.assertEqual(sure_of(HEARTS_OF_1, 24, "CA"), [28])
        self.assertEqual(sure_of(HEARTS_OF_1, 24, "C9"), [60])
        self.assertEqual(sure_of(HEARTS_OF_1, 24, "C9 S8"), [60])
        self.assertEqual(sure_of(HEARTS_OF_1, 24, "C9 DA"), [28])

    def test_the_one_alone_last_in_a_suit_s_game(self):
        # 2 has 18 points and DK HQ, 1 leads from D7 DA, 0 has D9 CT. DA draws the king, and D7 takes the rest.
        self.assertEqual(sure_of(SPADES_OF_2, 24), [18])
        self.assertEqual(sure_of(SPADES_OF_2, 24, "DA"), [18])
        self.assertEqual(sure_of(SPADES_OF_2, 24, "D7"), [46])

    def test_null(self):
        # 0 has C9 SA, 1 ST SK, 2 leads from H9 S9: S9 draws the ace, to H9 it is thrown away.
        self.assertEqual(sure_of(NULL_LOST_BY_0, 24), [0])
        self.assertEqual(sure_of(NULL_LOST_BY_0, 24, "S9"), [0])
        self.assertEqual(sure_of(NULL_LOST_BY_0, 24, "H9"), [1])
        self.assertEqual(sure_of(NULL_LOST_BY_0, 24, "H9 C9"), [0])
        self.assertEqual(sure_of(NULL_LOST_BY_0, 24, "H9 SA"), [1])
        # 0 has HA CA, 1 leads from S8 H7, 2 has H8 HQ: H7 draws the ace.
        self.assertEqual(sure_of(NULL_WON_BY_0, 24), [0])
        self.assertEqual(sure_of(NULL_WON_BY_0, 24, "H7"), [0])
        self.assertEqual(sure_of(NULL_WON_BY_0, 24, "S8"), [1])
        self.assertEqual(sure_of(NULL_WON_BY_0, 24, "S8 H8 HA"), [1])
        self.assertEqual(sure_of(NULL_WON_BY_0, 24, "S8 H8 CA"), [0])

    def test_the_last_trick(self):
        # HA H7 H9 bring 11 to 50.
        for count in (27, 28, 29):
            self.assertEqual(sure_of(GRAND_OF_0, count), [61])
        # HQ CT DA bring 24 to 22.
        for count in (27, 28, 29):
            self.assertEqual(sure_of(SPADES_OF_2, count), [46])
        for count in (27, 28, 29):
            self.assertEqual(sure_of(NULL_WON_BY_0, count), [1])
            self.assertEqual(sure_of(NULL_LOST_BY_0, count), [0])

    def test_all_and_nothing_with_fifteen_cards(self):
        for game in (HEARTS, CLUBS, GRAND):
            for alone, expected in ((0, 120), (1, 0), (2, 0)):
                with self.subTest(game=game, alone=alone):
                    path = in_play(game, alone, STRONG) + plays(FIVE_TRICKS_OF_STRONG)
                    self.assertEqual(told(path + [SURE])[-1], [expected])

    def test_what_lies_away_counts(self):
        # The ace of diamonds and the ten lie away in the place of two sevens.
        dealt = (STRONG[0], STRONG[1], cards("HQ H9 H8 H7 D7 C7 DK DQ D9 D8"), cards("DA DT"))
        path_of_1 = in_play(GRAND, 1, dealt) + plays("CJ HA HQ SJ HT H9 HJ HK H8 DJ SA H7 CA ST C7")
        path_of_0 = in_play(GRAND, 0, dealt) + plays("CJ HA HQ SJ HT H9 HJ HK H8 DJ SA H7 CA ST C7")
        self.assertEqual(told(path_of_1 + [SURE])[-1], [21])
        self.assertEqual(told(path_of_0 + [SURE])[-1], [120])


class AgainstEveryCard(unittest.TestCase):
    def check(self, ending):
        table = ending.table
        expected = most(table)
        with self.subTest(game=table.game, alone=table.alone, hands=table.hands, trick=table.trick):
            self.assertEqual(told(ending.calls + [SURE])[-1], [expected])
        return expected

    def test_fifteen_cards(self):
        for ending in endings(range(5), 15, (1,)):
            self.assertEqual(cards_in_hands(ending.table), 15)
            self.check(ending)

    def test_where_the_same_cards_left_are_come_to_with_other_claims(self):
        # Found by drawing: a bound of what comes, taken for what comes, would answer wrongly here.
        for game, alone, seed in (
            (DIAMONDS, 0, 17), (DIAMONDS, 0, 39), (DIAMONDS, 1, 13), (DIAMONDS, 2, 146), (HEARTS, 0, 49),
            (HEARTS, 2, 8), (SPADES, 0, 94), (SPADES, 2, 20), (SPADES, 2, 93), (GRAND, 1, 3),
        ):
            self.check(Ending(game, alone, seed, 15))

    def test_fifteen_cards_in_null(self):
        found = [self.check(ending) for ending in endings([NULL], 15, range(1, 21))]
        self.assertEqual(sorted(set(found)), [0, 1])

    def test_fewer_cards_within_a_trick_too(self):
        for count in range(1, 15):
            for ending in endings(range(6), count, (count,)):
                self.assertEqual(cards_in_hands(ending.table), count)
                self.check(ending)


class AgainstItself(unittest.TestCase):
    def test_it_is_the_best_that_comes_of_each_card(self):
        for ending in endings(range(6), 15, (5,)):
            drawn = draws(77)
            while not ending.table.over:
                allowed = ending.table.allowed()
                after = [self.after(ending, number) for number in allowed]
                best = max(after) if ending.table.turn() == ending.table.alone else min(after)
                with self.subTest(calls=ending.calls):
                    self.assertEqual(told(ending.calls + [SURE])[-1], [best])
                ending.play(allowed[next(drawn) % len(allowed)])

    def after(self, ending, number):
        sure, state = told(ending.calls + [play(number), SURE, STATE])[-2:]
        if state[0] == 6:
            return sure[0]
        return int(state[5] == 0) if ending.table.game == NULL else state[4]


class Asked(unittest.TestCase):
    def test_with_more_than_fifteen_cards(self):
        for whole in WHOLE:
            for count in range(15):
                with self.subTest(whole=whole, count=count):
                    self.assertEqual(sure_of(whole, count), [-2])

    def test_from_fifteen_cards_on(self):
        for whole in WHOLE:
            for count in range(15, 30):
                with self.subTest(whole=whole, count=count):
                    self.assertGreaterEqual(sure_of(whole, count)[0], 0)

    def test_in_other_phases(self):
        for phase, path in PATHS.items():
            if phase != 6:
                with self.subTest(phase=phase):
                    self.assertEqual(told(path + [SURE])[-1], [-1])
        self.assertEqual(told(PATHS[6] + [SURE])[-1], [-2])

    def test_behind_the_end(self):
        for whole in WHOLE:
            self.assertEqual(sure_of(whole, 30), [-1])
        # Nine cards a hand are left, and yet it's -1: the game is over.
        self.assertEqual(told(in_play(NULL, 0) + plays("CA CK C7") + [SURE])[-1], [-1])

    def test_without_a_game(self):
        self.assertEqual(told([SURE, BEGIN, SURE]), [[-4], [0], [-4]])

    def test_asked_at_every_turn_of_one_list(self):
        for whole in WHOLE:
            game, alone, played = whole
            calls = in_play(game, alone)
            start = len(calls)
            for call in plays(played):
                calls = calls + [SURE, call]
            found = told(calls)[start::2]
            self.assertEqual(found, [sure_of(whole, count) for count in range(30)])

    def test_asked_again_and_again(self):
        path = in_play(GRAND, 0) + plays(GRAND_OF_0[2])[:15]
        self.assertEqual(told_behind(path, [SURE] * 270), [[80]] * 270)

    def test_it_changes_nothing(self):
        for whole in WHOLE:
            game, alone, played = whole
            for count in (15, 16, 17, 18, 24, 29):
                path = in_play(game, alone) + plays(played)[:count]
                found = told_behind(path, LOOKS + [SURE] + LOOKS)
                with self.subTest(whole=whole, count=count):
                    self.assertEqual(found[:len(LOOKS)], found[-len(LOOKS):])
                    rest = plays(played)[count:]
                    self.assertEqual(told_behind(path + [SURE], rest + LOOKS), told_behind(path, rest + LOOKS))

    def test_games_of_the_same_cards_in_one_list(self):
        calls = []
        expected = []
        for game, alone in ((GRAND, 0), (GRAND, 1), (GRAND, 2), (CLUBS, 0), (CLUBS, 1), (HEARTS, 2)):
            path = in_play(game, alone, STRONG) + plays(FIVE_TRICKS_OF_STRONG) + [SURE]
            calls = calls + path
            expected = expected + told(path)
        self.assertEqual(told(calls), expected)

    def test_a_deal_in_between(self):
        path = in_play(GRAND, 0) + plays(GRAND_OF_0[2])[:15] + [SURE, deal(sum(EVEN, [])), SURE]
        self.assertEqual(told(path)[-3:], [[80], [0], [-1]])
        again = in_play(HEARTS, 1)[2:] + plays(HEARTS_OF_1[2])[:15] + [SURE]
        self.assertEqual(told(path + again)[-1], sure_of(HEARTS_OF_1, 15))


if __name__ == "__main__":
    unittest.main()

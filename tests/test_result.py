"""Promise 11: result."""

import unittest

from calling import (
    BEGIN, EVEN, GRAND, GRAND_PLAYED, LOOKS, NULL, NULL_LOST, NULL_LOST_LATE, NULL_WON, PATHS, RESULT, STATE, STRONG,
    cards, deal, in_play, plays, told, told_behind,
)

DIAMONDS, HEARTS, SPADES, CLUBS = range(4)
LEFT = None
SCHNEIDER = 1
SCHWARZ = 3
OPEN = 7

# Plays of the even deal, by the points that the one who plays alone comes to.
GRAND_OF_0 = {
    30: "CT C8 C7 C9 CK CQ SJ DJ HJ DA DK D9 D7 DT SA H8 HA H7 S7 ST SQ SK S9 CA S8 HQ HT HK H9 CJ",
    31: "D9 DA DK SK SQ S7 D7 DT HT S9 SA S8 HJ SJ DJ ST CQ HA H7 HQ CT H8 C9 HK C8 C7 CA CJ CK H9",
    60: "C9 CK C7 C8 CQ CT D9 D7 DK DJ HJ SJ HK HQ HT HA H7 H9 CJ DA SQ S7 S8 S9 H8 SA SK DT CA ST",
    61: GRAND_PLAYED,
    89: "HA HK HQ D9 DA DT H7 H8 HT HJ SJ DJ ST S9 SA CJ D7 SQ S7 SK C7 C8 CQ CT CA CK DK C9 S8 H9",
    90: "SA SK S9 S7 S8 SQ DT D9 DA HK HQ HT HA H7 H8 C9 C8 C7 HJ SJ DJ ST DK CJ CT CK CQ CA D7 H9",
    # Nine tricks, and all ten.
    112: "HA HK HQ CA C8 C7 SA ST SQ CJ SJ DJ CT CK CQ HJ S8 S9 HT H7 H8 C9 DA DT S7 SK DK D7 H9 D9",
    120: "SA S8 S9 HA H7 H9 CA CK C7 CJ SJ DJ HJ SK DT CT C8 CQ HT HK HQ C9 ST DK D9 D7 SQ S7 DA H8",
}
HEARTS_OF_1 = {
    30: "CA CK C7 SA SK S9 D9 DA DK S8 SQ S7 HQ CJ HK HT SJ H9 H7 DJ HA DT CT D7 CQ C9 C8 H8 HJ ST",
    31: "CT CK CQ CJ SJ HQ CA C8 C7 HA H7 H9 SA S8 S9 C9 SK DT D9 DA DK HK DJ HJ HT D7 H8 S7 ST SQ",
    60: "CT C8 C7 HA SJ DJ HK H9 CJ HT H7 H8 SA SK SQ S7 ST S9 D7 DK D9 HQ HJ CK C9 S8 CQ DT CA DA",
    61: "HT H7 H9 CA CK C7 SA SK S9 HJ HK DJ HA SJ H8 S8 SQ S7 DT D9 DA ST DK CT D7 HQ CJ C9 C8 CQ",
    89: "C9 CK CQ H7 HQ HA CJ HK DJ HT SJ H8 S8 SQ S7 H9 HJ C8 D9 D7 DK DT SA DA SK S9 CA ST C7 CT",
}
# 2 plays alone, without three: 41, 46 and 40 points.
OTHER_SUITS_OF_2 = {
    DIAMONDS: "HT HK HQ HJ SJ DJ CK C7 CT C9 C8 CQ DT D9 D7 H9 HA H7 SA SK SQ CA ST DK S9 S7 S8 H8 CJ DA",
    SPADES: "C9 C8 CQ DJ S7 ST SQ CJ SK HT HK H8 CA CK C7 SA S8 S9 HA H7 H9 HJ SJ DT D7 DK D9 HQ CT DA",
    CLUBS: "C9 C8 CQ H9 HA HK HT H7 H8 CJ SJ C7 D9 D7 DK DJ CT CK HQ SA S8 SQ S7 ST DA DT HJ CA SK S9",
}


def in_order(first, second, third):
    """Plays of hands whose first card leads and takes each trick."""
    names = []
    for trick in zip(first.split(), second.split(), third.split()):
        names.extend(trick)
    return " ".join(names)


ALL_OF_STRONG = in_order(
    "CJ SJ HJ DJ CA CT CK CQ C9 C8", "HA HT HK SA ST SK SQ S9 S8 S7", "HQ H9 H8 H7 DA DT DK DQ D9 D8")


def swapped(dealt, one, other):
    """The deal with two cards changed over."""
    one, other = cards(one + " " + other)
    change = {one: other, other: one}
    return tuple([change.get(number, number) for number in numbers] for numbers in dealt)


def result_of(game, alone, names, dealt=EVEN, said=0, bid=18, laid=LEFT):
    """What it comes to, with its sign."""
    path = in_play(game, alone, dealt, said, bid, laid) + plays(names)
    found = told(path + [RESULT])
    assert found[-2] == [7], (game, names)
    answer, amount, below = found[-1]
    assert answer == 0 and amount >= 0 and below in (0, 1), found[-1]
    return -amount if below else amount


class Points(unittest.TestCase):
    """Won from 61 on; once more from 90 on and up to 30; once more with all tricks."""

    def check(self, game, alone, played, laid, said, expected):
        for points, comes_to in expected.items():
            with self.subTest(game=game, laid=laid, said=said, points=points):
                path = in_play(game, alone, laid=laid, said=said) + plays(played[points])
                self.assertEqual(told(path + [STATE])[-1][4], points)
                self.assertEqual(result_of(game, alone, played[points], laid=laid, said=said), comes_to)

    def test_grand_with_one(self):
        expected = {30: -144, 31: -96, 60: -96, 61: 48, 89: 48, 90: 72, 112: 72, 120: 96}
        self.check(GRAND, 0, GRAND_OF_0, EVEN[3], 0, expected)

    def test_grand_with_one_from_the_hand(self):
        expected = {30: -192, 31: -144, 60: -144, 61: 72, 89: 72, 90: 96, 112: 96, 120: 120}
        self.check(GRAND, 0, GRAND_OF_0, LEFT, 0, expected)

    def test_schneider_announced(self):
        expected = {30: -240, 31: -240, 60: -240, 61: -240, 89: -240, 90: 120, 112: 120, 120: 144}
        self.check(GRAND, 0, GRAND_OF_0, LEFT, SCHNEIDER, expected)

    def test_schwarz_announced(self):
        expected = {30: -336, 31: -336, 60: -336, 61: -336, 89: -336, 90: -336, 112: -336, 120: 168}
        self.check(GRAND, 0, GRAND_OF_0, LEFT, SCHWARZ, expected)

    def test_open_announced(self):
        expected = {30: -384, 31: -384, 60: -384, 61: -384, 89: -384, 90: -384, 112: -384, 120: 192}
        self.check(GRAND, 0, GRAND_OF_0, LEFT, OPEN, expected)

    def test_hearts_without_one(self):
        self.check(HEARTS, 1, HEARTS_OF_1, EVEN[3], 0, {30: -60, 31: -40, 60: -40, 61: 20, 89: 20})

    def test_hearts_without_one_from_the_hand(self):
        self.check(HEARTS, 1, HEARTS_OF_1, LEFT, 0, {30: -80, 31: -60, 60: -60, 61: 30, 89: 30})
        self.check(HEARTS, 1, HEARTS_OF_1, LEFT, SCHNEIDER, {30: -100, 31: -100, 60: -100, 61: -100, 89: -100})
        self.check(HEARTS, 1, HEARTS_OF_1, LEFT, SCHWARZ, {30: -140, 89: -140})
        self.check(HEARTS, 1, HEARTS_OF_1, LEFT, OPEN, {30: -160, 89: -160})

    def test_the_base_of_each_suit(self):
        # Without three: four times the base, and five times from the hand.
        for game, base in ((DIAMONDS, 9), (SPADES, 11), (CLUBS, 12)):
            names = OTHER_SUITS_OF_2[game]
            with self.subTest(game=game):
                self.assertEqual(result_of(game, 2, names, laid=EVEN[3]), -2 * 4 * base)
                self.assertEqual(result_of(game, 2, names), -2 * 5 * base)

    def test_the_cards_laid_away_count(self):
        # 60 points with the queen of diamonds away are 61 with the king there: 2 takes a trick with the queen then.
        dealt = swapped(EVEN, "DQ", "DK")
        names = GRAND_OF_0[60].replace("DK", "DQ")
        self.assertEqual(told(in_play(GRAND, 0, dealt) + plays(names) + [STATE])[-1][4], 61)
        self.assertEqual(result_of(GRAND, 0, names, dealt), 72)


class Tops(unittest.TestCase):
    def test_with_eleven(self):
        # 12, and schneider and schwarz made.
        self.assertEqual(result_of(CLUBS, 0, ALL_OF_STRONG, STRONG, laid=STRONG[3]), 12 * 14)

    def test_the_two_cards_count_from_the_hand_too(self):
        self.assertEqual(result_of(CLUBS, 0, ALL_OF_STRONG, STRONG), 12 * 15)
        # The ace of clubs changed over with the seven: it lies away, and the eleven have no gap all the same.
        dealt = swapped(STRONG, "CA", "C7")
        self.assertEqual(result_of(CLUBS, 0, ALL_OF_STRONG.replace("CA", "C7"), dealt), 12 * 15)

    def test_the_jack_of_clubs_among_the_two(self):
        dealt = swapped(STRONG, "CJ", "D7")
        names = in_order(
            "SJ HJ DJ CA CT CK CQ C9 C8", "HA HT HK SA ST SK SQ S9 S8", "HQ H9 H8 H7 DA DT DK DQ D9") + " D7 S7 D8"
        # With eleven, from the hand; 9 tricks and 120 points.
        self.assertEqual(result_of(CLUBS, 0, names, dealt), 12 * 14)
        # With four in grand; schneider.
        self.assertEqual(result_of(GRAND, 0, names, dealt), 24 * 7)

    def test_cards_laid_away_count_as_had(self):
        names = in_order(
            "HJ DJ CA CT CK CQ C9 C8 C7", "HA HT HK SA ST SK SQ S9 S8", "HQ H9 H8 H7 DA DT DK DQ D9") + " D7 S7 D8"
        laid = cards("CJ SJ")
        self.assertEqual(result_of(CLUBS, 0, names, STRONG, laid=laid), 12 * 13)
        self.assertEqual(result_of(GRAND, 0, names, STRONG, laid=laid), 24 * 6)

    def test_grand_has_four_trumps(self):
        self.assertEqual(result_of(GRAND, 0, ALL_OF_STRONG, STRONG, laid=STRONG[3]), 24 * 7)
        self.assertEqual(result_of(GRAND, 0, ALL_OF_STRONG, STRONG), 24 * 8)

    def test_with_four_and_a_gap_at_the_ace(self):
        self.assertEqual(result_of(HEARTS, 0, ALL_OF_STRONG, STRONG, laid=STRONG[3]), 10 * 7)

    def test_with_two_and_with_three(self):
        # The jack of spades lies away, and 1 has the queen of diamonds for it.
        dealt = swapped(EVEN, "SJ", "DQ")
        names = "HA HK HQ HT H7 H9 CA CK C7 CT C8 CQ SA S8 S9 CJ ST DJ HJ SK DK D9 D7 DT H8 S7 DQ SQ C9 DA"
        points, tricks = told(in_play(GRAND, 0, dealt) + plays(names) + [STATE])[-1][4:6]
        self.assertEqual((points, tricks), (93, 7))
        # With three, from the hand, schneider.
        self.assertEqual(result_of(GRAND, 0, names, dealt), 24 * 6)
        # The jack of hearts at 2 and that of diamonds at 0: with two.
        dealt = swapped(dealt, "HJ", "DJ")
        names = names.replace("CJ ST DJ HJ SK DK", "CJ ST HJ DJ SK DK")
        self.assertEqual(result_of(GRAND, 0, names, dealt), 24 * 5)

    def test_without_one_and_three(self):
        names = GRAND_OF_0[61]
        # 1 comes to 52 points and 2 to 13.
        self.assertEqual(result_of(GRAND, 1, names, laid=EVEN[3]), -2 * 24 * 2)
        self.assertEqual(result_of(GRAND, 2, names, laid=EVEN[3]), -2 * 24 * 5)

    def test_without_two(self):
        # 2 has the jack of hearts for the one of diamonds.
        dealt = swapped(EVEN, "HJ", "DJ")
        names = GRAND_OF_0[61].replace("HJ SJ DJ", "DJ SJ HJ")
        self.assertEqual(result_of(GRAND, 2, names, dealt, laid=EVEN[3]), -2 * 24 * 4)

    def test_without_four_in_grand(self):
        # 5, and schneider and schwarz against the one who plays alone.
        self.assertEqual(result_of(GRAND, 1, ALL_OF_STRONG, STRONG, laid=STRONG[3]), -2 * 24 * 7)

    def test_without_ten_and_eleven(self):
        self.assertEqual(result_of(CLUBS, 1, ALL_OF_STRONG, STRONG, laid=STRONG[3]), -2 * 12 * 13)
        dealt = swapped(STRONG, "C7", "D8")
        names = in_order(
            "CJ SJ HJ DJ CA CT CK CQ C9 C8", "HA HT HK SA ST SK SQ S9 S8 S7", "C7 H9 H8 H7 DA DT DK DQ D9 HQ")
        self.assertEqual(result_of(CLUBS, 1, names, dealt, laid=dealt[3]), -2 * 12 * 14)
        self.assertEqual(result_of(CLUBS, 1, names, dealt), -2 * 12 * 15)
        self.assertEqual(result_of(CLUBS, 1, names, dealt, OPEN), -2 * 12 * 18)

    def test_without_four_and_the_suits_ace(self):
        # 1 has the ace of spades, and no jack.
        names = in_order("CJ SJ HJ DJ", "S7 S8 S9 SQ", "HQ H9 H8 H7")
        names = names + " CA HA DA CT HT DT CK HK DK CQ SA DQ SK D8 C8 ST D9 C9"
        points, tricks = told(in_play(SPADES, 1, STRONG) + plays(names) + [STATE])[-1][4:6]
        self.assertEqual((points, tricks), (31, 3))
        self.assertEqual(result_of(SPADES, 1, names, STRONG, laid=STRONG[3]), -2 * 11 * 5)

    def test_the_highest_worth(self):
        self.assertEqual(result_of(GRAND, 0, ALL_OF_STRONG, STRONG, OPEN), 264)
        self.assertEqual(result_of(GRAND, 0, ALL_OF_STRONG, STRONG, OPEN, 264), 264)
        self.assertEqual(result_of(CLUBS, 0, ALL_OF_STRONG, STRONG, OPEN), 12 * 18)


class NoTrick(unittest.TestCase):
    def test_none_counts_as_all_do(self):
        # 2 takes none of the ten: 5, schneider and schwarz; 8 from the hand.
        self.assertEqual(result_of(GRAND, 2, ALL_OF_STRONG, STRONG, laid=STRONG[3]), -2 * 24 * 7)
        self.assertEqual(result_of(GRAND, 2, ALL_OF_STRONG, STRONG), -2 * 24 * 8)
        # Announced they are counted once more each, and no third time.
        self.assertEqual(result_of(GRAND, 2, ALL_OF_STRONG, STRONG, SCHNEIDER), -2 * 24 * 9)
        self.assertEqual(result_of(GRAND, 2, ALL_OF_STRONG, STRONG, SCHWARZ), -2 * 24 * 10)
        self.assertEqual(result_of(GRAND, 2, ALL_OF_STRONG, STRONG, OPEN), -2 * 24 * 11)

    def test_one_trick_is_not_none(self):
        names = in_order("CJ SJ HJ DJ CA CT CK CQ C9", "HA HT HK SA ST SK SQ S9 S8",
                         "HQ H9 H8 H7 DT DK DQ D9 D8") + " D7 S7 DA"
        dealt = swapped(STRONG, "C8", "D7")
        self.assertEqual(told(in_play(GRAND, 2, dealt) + plays(names) + [STATE])[-1][4:6], [11, 1])
        self.assertEqual(result_of(GRAND, 2, names, dealt, laid=dealt[3]), -2 * 24 * 6)


class Null(unittest.TestCase):
    WORTHS = ((EVEN[3], 0, 23), (LEFT, 0, 35), (EVEN[3], 4, 46), (LEFT, 4, 59))

    def test_won(self):
        for laid, said, worth in self.WORTHS:
            for bid in (18, 20, 22, 23):
                with self.subTest(laid=laid, said=said, bid=bid):
                    self.assertEqual(result_of(NULL, 0, NULL_WON, said=said, laid=laid, bid=bid), worth)

    def test_lost(self):
        for laid, said, worth in self.WORTHS:
            for bid in (18, 20, 22, 23):
                with self.subTest(laid=laid, said=said, bid=bid):
                    self.assertEqual(result_of(NULL, 0, NULL_LOST, said=said, laid=laid, bid=bid), -2 * worth)

    def test_lost_in_the_tenth_trick(self):
        self.assertEqual(result_of(NULL, 0, NULL_LOST_LATE), -70)

    def test_points_do_not_count(self):
        # With 3 points or 21, and whoever plays alone.
        names = "D9 DA DJ ST S9 S7 C8 C7 CA HT HK HQ H7 H8 HJ CT CK CQ SK SQ SA CJ S8 DT C9 SJ H9 HA D7 DK"
        self.assertEqual(result_of(NULL, 2, names), 35)
        self.assertEqual(result_of(NULL, 2, names, laid=EVEN[3]), 23)

    def test_overbid(self):
        for laid, said, bid, multiple in (
            (EVEN[3], 0, 24, 46), (EVEN[3], 0, 45, 46), (EVEN[3], 0, 46, 46), (EVEN[3], 0, 48, 69),
            (LEFT, 0, 36, 46), (LEFT, 0, 46, 46), (LEFT, 0, 48, 69), (EVEN[3], 4, 48, 69), (EVEN[3], 4, 70, 92),
            (LEFT, 4, 60, 69), (LEFT, 4, 66, 69), (LEFT, 4, 70, 92), (LEFT, 4, 264, 276),
        ):
            # No trick that isn't taken helps then.
            for names in (NULL_WON, NULL_LOST):
                with self.subTest(laid=laid, said=said, bid=bid, names=names):
                    found = result_of(NULL, 0, names, said=said, laid=laid, bid=bid)
                    self.assertEqual(found, -2 * multiple)

    def test_bid_as_high_as_its_worth(self):
        for laid, said, bid in ((EVEN[3], 0, 23), (LEFT, 0, 35), (EVEN[3], 4, 46), (LEFT, 4, 59)):
            with self.subTest(bid=bid):
                self.assertEqual(result_of(NULL, 0, NULL_WON, said=said, laid=laid, bid=bid), bid)
                self.assertEqual(result_of(NULL, 0, NULL_LOST, said=said, laid=laid, bid=bid), -2 * bid)


class Overbid(unittest.TestCase):
    def test_a_suit(self):
        for points, bid, comes_to in (
            (61, 20, 20), (61, 22, -60), (61, 30, -60), (61, 33, -80), (61, 264, -540),
            (60, 20, -40), (60, 22, -60), (60, 30, -60), (60, 33, -80), (30, 30, -60), (30, 33, -80),
        ):
            with self.subTest(points=points, bid=bid):
                found = result_of(HEARTS, 1, HEARTS_OF_1[points], laid=EVEN[3], bid=bid)
                self.assertEqual(found, comes_to)

    def test_grand(self):
        for points, bid, comes_to in (
            (61, 48, 48), (61, 50, -144), (61, 72, -144), (61, 77, -192), (90, 72, 72), (90, 77, -192),
            (120, 96, 96), (120, 99, -240), (120, 120, -240), (120, 121, -288), (120, 264, -528),
        ):
            with self.subTest(points=points, bid=bid):
                found = result_of(GRAND, 0, GRAND_OF_0[points], laid=EVEN[3], bid=bid)
                self.assertEqual(found, comes_to)

    def test_from_the_hand_and_announced(self):
        for points, said, bid, comes_to in (
            (61, 0, 72, 72), (61, 0, 77, -192), (90, 0, 96, 96), (90, 0, 99, -240), (90, SCHNEIDER, 120, 120),
            (90, SCHNEIDER, 121, -288), (89, SCHNEIDER, 120, -240), (120, SCHWARZ, 168, 168),
            (120, SCHWARZ, 170, -384), (120, OPEN, 192, 192), (120, OPEN, 198, -432),
        ):
            with self.subTest(points=points, said=said, bid=bid):
                self.assertEqual(result_of(GRAND, 0, GRAND_OF_0[points], said=said, bid=bid), comes_to)

    def test_the_other_suits(self):
        for game, bid, comes_to in (
            (DIAMONDS, 36, -72), (DIAMONDS, 40, -90), (DIAMONDS, 45, -90), (DIAMONDS, 46, -108),
            (SPADES, 44, -88), (SPADES, 45, -110), (SPADES, 55, -110), (SPADES, 59, -132),
            (CLUBS, 48, -96), (CLUBS, 50, -120), (CLUBS, 60, -120), (CLUBS, 63, -144),
        ):
            with self.subTest(game=game, bid=bid):
                self.assertEqual(result_of(game, 2, OTHER_SUITS_OF_2[game], laid=EVEN[3], bid=bid), comes_to)


class When(unittest.TestCase):
    def test_nobody_played(self):
        self.assertEqual(told(PATHS[7] + [RESULT])[-1], [0, 0, 0])

    def test_the_form(self):
        path = in_play(GRAND, 0) + plays(GRAND_OF_0[61])
        self.assertEqual(told_behind(path, [RESULT, RESULT]), [[0, 72, 0], [0, 72, 0]])
        path = in_play(GRAND, 0) + plays(GRAND_OF_0[60])
        self.assertEqual(told_behind(path, [RESULT, RESULT]), [[0, 144, 1], [0, 144, 1]])

    def test_before_it_is_over(self):
        for phase, path in PATHS.items():
            if phase != 7:
                with self.subTest(phase=phase):
                    self.assertEqual(told(path + [RESULT])[-1], [-1])
        path = in_play(GRAND, 0)
        for call in plays(GRAND_OF_0[61]):
            self.assertEqual(told(path + [RESULT])[-1], [-1])
            path = path + [call]
        path = in_play(NULL, 0)
        for call in plays(NULL_WON):
            self.assertEqual(told(path + [RESULT])[-1], [-1])
            path = path + [call]
        self.assertEqual(told(path + [RESULT])[-1], [0, 35, 0])

    def test_without_a_game(self):
        self.assertEqual(told([RESULT, BEGIN, RESULT]), [[-4], [0], [-4]])
        path = in_play(GRAND, 0) + plays(GRAND_OF_0[61])
        self.assertEqual(told_behind(path, [RESULT, BEGIN, RESULT, deal(), RESULT]),
                         [[0, 72, 0], [0], [-4], [0], [-1]])

    def test_it_changes_nothing(self):
        path = in_play(GRAND, 0) + plays(GRAND_OF_0[61])
        found = told_behind(path, LOOKS + LOOKS)
        self.assertEqual(found[:len(LOOKS)], found[len(LOOKS):])


if __name__ == "__main__":
    unittest.main()

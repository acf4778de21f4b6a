"""Promises 7 and 8: play and legal."""

import unittest

from calling import (
    BEGIN, EVEN, GRAND, GRAND_PLAYED, LEAST, LEGAL, LOOKS, MOST, NULL, NULL_LOST_LATE, NULL_WON, PATHS, RESULT, STATE,
    STRONG, Table, card, cards, counted, deal, ends, in_play, last, play, plays, told, told_behind,
)

DIAMONDS, HEARTS, SPADES, CLUBS = range(4)
ALL_GAMES = range(6)

# Whole games of the even deal: which, who plays alone, the cards in turn, who takes each trick.
WHOLE = (
    (GRAND, 0, GRAND_PLAYED,
     (0, 0, 0, 1, 1, 2, 1, 1, 0, 0)),
    (HEARTS, 1,
     "CJ HK H8 C9 C8 CQ C7 CT CK S7 SK SQ ST S9 SA HA H7 H9 HT SJ HQ DA DK D9 S8 DT CA D7 DJ HJ",
     (0, 2, 0, 1, 0, 0, 1, 1, 1, 0)),
    (DIAMONDS, 2,
     "HT HK HQ HJ SJ DJ CK C7 CT C9 C8 CQ DT D9 D7 H9 HA H7 SA SK SQ CA ST DK S9 S7 S8 H8 CJ DA",
     (0, 1, 0, 2, 2, 0, 0, 2, 2, 0)),
    (SPADES, 2,
     "C9 C8 CQ DJ S7 ST SQ CJ SK HT HK H8 CA CK C7 SA S8 S9 HA H7 H9 HJ SJ DT D7 DK D9 HQ CT DA",
     (2, 2, 0, 0, 0, 0, 0, 1, 2, 2)),
    (CLUBS, 2,
     "C9 C8 CQ H9 HA HK HT H7 H8 CJ SJ C7 D9 D7 DK DJ CT CK HQ SA S8 SQ S7 ST DA DT HJ CA SK S9",
     (2, 0, 0, 0, 2, 2, 2, 1, 0, 0)),
    (NULL, 0, NULL_WON,
     (1, 2, 1, 1, 1, 2, 2, 1, 1, 2)),
)

# In the even deal: the game, what 0 leads, what 1 may play to it.
FOLLOWED = (
    # A suit's game: its cards and the jacks follow one another, and a jack follows no suit of its own.
    (HEARTS, "HJ", "SJ HK H7"),
    (HEARTS, "CJ", "SJ HK H7"),
    (HEARTS, "HT", "SJ HK H7"),
    (HEARTS, "SA", "ST SK S8"),
    (HEARTS, "D9", "DA D7"),
    (HEARTS, "C9", "CK C8"),
    (SPADES, "HJ", "SJ ST SK S8"),
    (SPADES, "S7", "SJ ST SK S8"),
    (SPADES, "HA", "HK H7"),
    (DIAMONDS, "CJ", "SJ DA D7"),
    (DIAMONDS, "D9", "SJ DA D7"),
    (CLUBS, "C9", "SJ CK C8"),
    (CLUBS, "HJ", "SJ CK C8"),
    # Grand: the jacks follow one another alone.
    (GRAND, "CJ", "SJ"),
    (GRAND, "HJ", "SJ"),
    (GRAND, "S7", "ST SK S8"),
    (GRAND, "HA", "HK H7"),
    # Null: each suit with its jack.
    (NULL, "CJ", "CK C8"),
    (NULL, "HJ", "HK H7"),
    (NULL, "S7", "SJ ST SK S8"),
    (NULL, "SA", "SJ ST SK S8"),
    (NULL, "D9", "DA D7"),
)

# In the even deal: the game, the first trick, who takes it.
FIRST_TRICKS = (
    # Jacks among one another.
    (HEARTS, "CJ SJ DJ", 0),
    (HEARTS, "HJ SJ DJ", 1),
    (HEARTS, "HJ HK DJ", 0),
    (GRAND, "HJ SJ DJ", 1),
    (GRAND, "CJ SJ DJ", 0),
    # Jacks above the suit's ace.
    (HEARTS, "HA HK DJ", 2),
    (HEARTS, "HA SJ DJ", 1),
    (HEARTS, "HA H7 H8", 0),
    (SPADES, "SA ST DJ", 2),
    # The ten above the king, the king above the queen, the queen above the nine.
    (HEARTS, "HT HK HQ", 0),
    (GRAND, "C9 CK CQ", 1),
    (GRAND, "C9 C8 CQ", 2),
    (GRAND, "S7 ST SQ", 1),
    (GRAND, "S7 S8 S9", 2),
    (GRAND, "CT CK CQ", 0),
    # In null it is below the king, the queen and the jack; and a jack is below the queen.
    (NULL, "HT H7 HQ", 2),
    (NULL, "HT HK HQ", 1),
    (NULL, "HT H7 H9", 0),
    (NULL, "HJ H7 HQ", 2),
    (NULL, "HJ HK H8", 1),
    (NULL, "HJ H7 H8", 0),
    (NULL, "S7 SJ S9", 1),
    (NULL, "S7 SJ SQ", 2),
    (NULL, "S7 ST S9", 1),
    (NULL, "CJ C8 CQ", 2),
    (NULL, "D9 D7 DT", 2),
    (NULL, "D9 D7 DJ", 2),
)

def trick_taken_by(game, alone, names, dealt=EVEN):
    state = told(in_play(game, alone, dealt) + plays(names) + [STATE])[-1]
    return state[1]


class MayPlay(unittest.TestCase):
    def test_who_leads_may_play_any_card(self):
        for game in ALL_GAMES:
            for alone in range(3):
                with self.subTest(game=game, alone=alone):
                    self.assertEqual(told(in_play(game, alone) + [LEGAL])[-1], counted(EVEN[0]))

    def test_what_has_to_be_followed(self):
        for game, led, allowed in FOLLOWED:
            with self.subTest(game=game, led=led):
                path = in_play(game, 1) + plays(led)
                self.assertEqual(told(path + [LEGAL])[-1], counted(cards(allowed)))
                for number in range(32):
                    answer = 6 if number in cards(allowed) else -1
                    self.assertEqual(told(path + [play(number)])[-1], [answer])

    def test_the_third_follows_what_is_led_and_not_the_second(self):
        # 1 has no club and throws a spade in, and 2 has spades none the less.
        dealt = (
            cards("CA CT CK CQ C9 C8 C7 D7 D8 D9"), cards("SA ST SK SQ H7 H8 H9 HQ HK HT"),
            cards("CJ SJ HJ DJ S7 S8 S9 HA DA DT"), cards("DQ DK"),
        )
        for game, allowed in (
            (DIAMONDS, dealt[2]), (HEARTS, dealt[2]), (SPADES, dealt[2]), (GRAND, dealt[2]),
            (CLUBS, cards("CJ SJ HJ DJ")), (NULL, cards("CJ")),
        ):
            with self.subTest(game=game):
                path = in_play(game, 1, dealt) + plays("CA SA")
                self.assertEqual(told(path + [LEGAL])[-1], counted(allowed))

    def test_who_has_none_may_play_any_card(self):
        for game in (CLUBS, GRAND, NULL):
            with self.subTest(game=game):
                path = in_play(game, 0, STRONG) + plays("CA")
                self.assertEqual(told(path + [LEGAL])[-1], counted(STRONG[1]))
                self.assertEqual(told(path + plays("S7") + [LEGAL])[-1], counted(STRONG[2]))
        # A jack that is led asks for trumps, and not for its suit.
        self.assertEqual(told(in_play(GRAND, 0, STRONG) + plays("SJ") + [LEGAL])[-1], counted(STRONG[1]))
        self.assertEqual(told(in_play(NULL, 0, STRONG) + plays("SJ") + [LEGAL])[-1], counted(cards(
            "SA ST SK SQ S9 S8 S7")))

    def test_a_jack_alone_of_its_suit_follows_in_null_alone(self):
        dealt = (
            cards("SA ST SK SQ S9 S8 S7 HA HT HK"), cards("SJ CJ CA CT CK CQ C9 C8 C7 DA"),
            cards("HJ DJ HQ H9 H8 H7 DT DK DQ D9"), cards("D8 D7"),
        )
        for game, allowed in ((NULL, cards("SJ")), (GRAND, dealt[1]), (HEARTS, dealt[1]), (SPADES, cards("SJ CJ"))):
            with self.subTest(game=game):
                self.assertEqual(told(in_play(game, 1, dealt) + plays("SA") + [LEGAL])[-1], counted(allowed))

    def test_the_jack_of_clubs_is_bit_31(self):
        # Clubs but for the seven, and the three other jacks.
        expected = 0xFE000000 | 1 << 7 | 1 << 15 | 1 << 23
        self.assertEqual(told(in_play(GRAND, 0, STRONG) + [LEGAL])[-1], [10, expected])


class Takes(unittest.TestCase):
    def test_the_first_trick(self):
        for game, names, taker in FIRST_TRICKS:
            # The one who plays alone doesn't take it, so that a null game goes on.
            alone = (taker + 1) % 3
            with self.subTest(game=game, names=names):
                self.assertEqual(trick_taken_by(game, alone, names), taker)

    def test_a_card_thrown_in_takes_nothing(self):
        for names in ("C8 SA DA", "C8 HA HQ", "CA SA DA"):
            for game in (CLUBS, GRAND, NULL):
                with self.subTest(names=names, game=game):
                    self.assertEqual(trick_taken_by(game, 1, names, STRONG), 0)

    def test_a_trump_thrown_in_takes_it(self):
        for game, names, taker in (
            (SPADES, "C8 S7 DA", 1), (DIAMONDS, "CA SA D8", 2), (HEARTS, "CA HK H7", 1), (HEARTS, "CA HK HQ", 1),
            (HEARTS, "CA SA H7", 2), (SPADES, "CA HA DA", 0), (DIAMONDS, "CA HA HQ", 0),
        ):
            with self.subTest(game=game, names=names):
                self.assertEqual(trick_taken_by(game, 1, names, STRONG), taker)

    def test_who_takes_a_trick_leads_next(self):
        for game, alone, names, takers in WHOLE:
            calls = in_play(game, alone)
            start = len(calls)
            for call in plays(names):
                calls = calls + [STATE, call]
            states = told(calls)[start::2]
            leaders = [state[1] for state in states[::3]]
            with self.subTest(game=game):
                self.assertEqual(leaders, [0] + list(takers[:9]))
                turns = [(leader + place) % 3 for leader in leaders for place in range(3)]
                self.assertEqual([state[1] for state in states], turns)
                self.assertEqual([state[6] for state in states], [0, 1, 2] * 10)

    def test_whose_the_tricks_are(self):
        for game, alone, names, takers in WHOLE:
            for count in range(1, 11):
                state = told(in_play(game, alone) + plays(names)[:3 * count] + [STATE])[-1]
                with self.subTest(game=game, count=count):
                    self.assertEqual(state[5], takers[:count].count(alone))


class EndsAndGoesOn(unittest.TestCase):
    def test_the_phase_after_each_card(self):
        for game, alone, names, takers in WHOLE:
            with self.subTest(game=game):
                self.assertEqual(ends(in_play(game, alone), plays(names)), [6] * 29 + [7])

    def test_0_leads_whoever_plays_alone(self):
        for game in ALL_GAMES:
            for alone in range(3):
                self.assertEqual(told(in_play(game, alone) + [STATE])[-1][:3], [6, 0, alone])

    def test_null_ends_with_a_trick_that_is_taken(self):
        for alone, names in (
            (0, "CA CK C7"),
            (0, "S7 S8 SQ S9 SA SK"),
            (0, "CJ CK C7 ST SQ S7 DT D9 DA C8 CQ CT H8 HA HK"),
            (1, "SA ST S9 CJ CK CQ"),
            (1, "HT H7 H9 HA HK HQ HJ DA H8 D9 D7 DJ S9 S7 SJ"),
            (2, "CJ CK CQ D7 DJ D9"),
            (2, "D9 DA DK ST S9 S7 HK H9 HT SK SQ SA HJ H7 HQ"),
        ):
            for said in (0, 4):
                with self.subTest(names=names, said=said):
                    path = in_play(NULL, alone, said=said)
                    called = plays(names)
                    self.assertEqual(ends(path, called), [6] * (len(called) - 1) + [7])
                    state = told(path + called + [STATE])[-1]
                    self.assertEqual((state[:3], state[5:]), ([7, 3, alone], [1, 0]))
                    refused = [play(number) for number in range(32)] + [LEGAL]
                    self.assertEqual(told_behind(path + called, refused), [[-1]] * 33)

    def test_null_ends_with_the_tenth_trick_too(self):
        for alone, names in (
            (0, NULL_LOST_LATE),
            (1, "CT C8 CQ H9 HA HK CA CK C7 D9 D7 DK S9 SA SK HT H7 H8 CJ S8 HQ C9 DA SQ HJ SJ DT S7 ST DJ"),
        ):
            path = in_play(NULL, alone) + plays(names)
            with self.subTest(alone=alone):
                self.assertEqual(ends(path[:-30], plays(names)), [6] * 29 + [7])
                self.assertEqual(told(path + [STATE])[-1][5], 1)

    def test_null_goes_on_where_others_take_tricks(self):
        path = in_play(NULL, 0)
        self.assertEqual(ends(path, plays("HT HK H9 D7 DJ D9 S9")), [6] * 7)

    def test_other_games_go_on_where_the_one_alone_takes_a_trick(self):
        for game in (DIAMONDS, HEARTS, SPADES, CLUBS, GRAND):
            self.assertEqual(ends(in_play(game, 0), plays("CJ SJ DJ HT")), [6] * 4)

    def test_behind_the_end_nothing_is_played(self):
        for game, alone, names, takers in WHOLE:
            path = in_play(game, alone) + plays(names)
            refused = [play(number) for number in range(-1, 33)]
            self.assertEqual(ends(path, refused + refused), [-1] * 68)


class NotAllowed(unittest.TestCase):
    def test_every_other_number_at_every_turn(self):
        for game, alone, names, takers in WHOLE:
            table = Table(game, alone, EVEN[:3], EVEN[3])
            path = in_play(game, alone)
            for number in cards(names):
                wrong = [other for other in range(32) if other not in table.allowed()]
                wrong += [-1, -2, -32, number - 32, number + 32, 32, 33, 63, 64, 255, 256 + number, LEAST, MOST]
                refused = [play(other) for other in wrong]
                with self.subTest(game=game, number=number):
                    found = told_behind(path, LOOKS + refused + LOOKS + [play(number)])
                    self.assertEqual(found[len(LOOKS):-len(LOOKS) - 1], [[-1]] * len(refused))
                    self.assertEqual(found[-len(LOOKS) - 1:-1], found[:len(LOOKS)])
                    self.assertIn(found[-1], ([6], [7]))
                table.play(number)
                path = path + [play(number)]

    def test_a_card_that_was_played(self):
        path = in_play(GRAND, 0) + plays("HT HK HQ")
        self.assertEqual(ends(path, plays("HT HK HQ CT CT")), [-1, -1, -1, 6, -1])

    def test_cards_that_lie_away(self):
        self.assertEqual(ends(in_play(GRAND, 0), plays("DQ D8")), [-1, -1])
        laid = cards("CA HT")
        path = in_play(GRAND, 0, laid=laid)
        self.assertEqual(ends(path, plays("CA HT") + plays("DQ")), [-1, -1, 6])

    def test_legal_and_play_outside_their_phase(self):
        for phase, path in PATHS.items():
            if phase != 6:
                refused = [LEGAL] + [play(number) for number in range(32)]
                with self.subTest(phase=phase):
                    self.assertEqual(told_behind(path, refused), [[-1]] * 33)

    def test_legal_tells_and_changes_nothing(self):
        path = in_play(GRAND, 0) + plays("HT")
        expected = counted(cards("HK H7"))
        self.assertEqual(told_behind(path, [LEGAL, LEGAL, LEGAL]), [expected] * 3)
        self.assertEqual(told_behind(path + [LEGAL], plays("HK")), [[6]])

    def test_a_new_deal_in_the_midst_of_play(self):
        dealt = sum(EVEN, [])
        for count in (0, 1, 2, 3, 17, 30):
            path = in_play(GRAND, 0) + plays(GRAND_PLAYED)[:count] + [deal(dealt)]
            with self.subTest(count=count):
                self.assertEqual(told_behind(path, [STATE]), [[0, 1, 3, 0, 0, 0, 0]])
                again = in_play(HEARTS, 1)[2:] + plays(WHOLE[1][2]) + LOOKS
                self.assertEqual(told_behind(path, again), told_behind([BEGIN, deal(dealt)], again))

    def test_result_is_refused_while_it_is_played(self):
        for game, alone, names, takers in WHOLE:
            for count in (0, 1, 2, 3, 15, 29):
                self.assertEqual(last(in_play(game, alone) + plays(names)[:count] + [RESULT]), -1)

    def test_a_card_by_name(self):
        self.assertEqual((card("D7"), card("DJ"), card("H7"), card("SA"), card("CJ")), (0, 7, 8, 22, 31))


if __name__ == "__main__":
    unittest.main()

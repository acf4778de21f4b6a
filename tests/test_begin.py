"""Promise 1: begin, and what all calls share."""

import itertools
import unittest

from calling import (
    ALONE, AWAY, BEGIN, CARDS, GRAND_PLAYED, HANDS, LEAST, LEGAL, LOOKS, MOST, NEW, NULL_LOST, OTHER_CARDS, PATHS,
    RESULT, STATE, SURE, cards_to_lay, deal, declare, ends, hand, in_play, last, lay, play, plays, run, speak, spoken,
    take, told_behind,
)

ALL_BUT_BEGIN_AND_DEAL = [
    speak(18), speak(0), take(1), take(0), lay(0, 1), declare(4, 0), play(0), LEGAL, hand(0), STATE, RESULT, SURE,
]

# What would be allowed in a phase, and is refused in every other one.
SPEAKS = [speak(x) for x in (0, 1, 18, 20, 264, -1)]
TAKES = [take(yes) for yes in (0, 1, -1)]
LAYS = [lay(*cards) for cards in (HANDS[0][:2], HANDS[1][:2], HANDS[2][:2], AWAY)]
DECLARES = [declare(game, said) for game in range(6) for said in (0, 1, 3, 4, 7)]
PLAYS = [play(card) for card in range(32)] + [play(-1), play(32), play(LEAST), play(MOST)]
OWN_PHASES = (
    (SPEAKS, (0, 1, 2)), (TAKES, (3,)), (LAYS, (4,)), (DECLARES, (5,)), (PLAYS, (6,)), ([LEGAL, SURE], (6,)),
    ([RESULT], (7,)), ([hand(-1), hand(4), hand(LEAST), hand(MOST)], ()),
)

BAD_DEALS = [deal(CARDS[:31] + [CARDS[0]]), deal(CARDS[:31] + [32]), deal(CARDS[:31] + [255]), deal([0] * 32)]

# What is told in the phase of the call and is not allowed there.
WRONG_IN_PHASE = {
    0: [speak(x) for x in (-1, 1, 17, 19, 265, LEAST, MOST)],
    1: [speak(x) for x in (-1, 2, 18, 20, LEAST, MOST)],
    2: [speak(x) for x in (-1, 1, 17, 20, LEAST, MOST)],
    3: [],
    4: [lay(HANDS[1][0], HANDS[1][0]), lay(HANDS[1][0], HANDS[0][0]), lay(-1, HANDS[1][0]), lay(HANDS[1][0], MOST)],
    5: [declare(6, 0), declare(-1, 0), declare(4, 2), declare(5, 1), declare(0, 4), declare(0, -1)],
    6: [play(card) for card in HANDS[1] + HANDS[2] + AWAY + [-1, 32, LEAST, MOST]],
    7: [],
}


def refused_in(phase):
    calls = list(BAD_DEALS) + WRONG_IN_PHASE[phase]
    for known, phases in OWN_PHASES:
        if phase not in phases:
            calls.extend(known)
    return calls


def ways_on():
    """Ways to go on that tell games apart: who bids, the last value, who's alone, the hand, whether it's from it."""
    tails = (
        [take(1)] + LAYS + [declare(4, 1), declare(5, 4)],
        [take(0), declare(4, 2), declare(4, 7)],
        LAYS + [declare(0, 1), declare(0, 0)],
    )
    for words in itertools.product((0, 1, 18, 20, 30), repeat=3):
        for tail in tails:
            yield spoken(*words) + tail


class Begin(unittest.TestCase):
    def test_begin_answers_0(self):
        self.assertEqual(run([BEGIN]), [0])
        self.assertEqual(run([BEGIN, BEGIN]), [0, 0])

    def test_begin_ends_the_game_in_every_phase(self):
        for phase, path in PATHS.items():
            for call in ALL_BUT_BEGIN_AND_DEAL:
                with self.subTest(phase=phase, call=call):
                    self.assertEqual(ends(path, [BEGIN, call]), [0, -4])

    def test_a_game_can_be_dealt_behind_a_second_begin(self):
        self.assertEqual(ends(PATHS[6], [BEGIN, deal(), speak(18), speak(1), speak(18)]), [0, 0, 1, 0, -1])


class NoGame(unittest.TestCase):
    def test_all_but_begin_and_deal_answer_minus_4_behind_begin(self):
        for call in ALL_BUT_BEGIN_AND_DEAL:
            with self.subTest(call=call):
                self.assertEqual(run([BEGIN, call, BEGIN, call, call]), [0, -4, 0, -4, -4])

    def test_all_but_begin_and_deal_answer_minus_4_at_the_very_beginning(self):
        for call in ALL_BUT_BEGIN_AND_DEAL:
            with self.subTest(call=call):
                self.assertEqual(run([call]), [-4])

    def test_minus_4_comes_ahead_of_minus_1(self):
        calls = [speak(-7), lay(3, 3), lay(-1, 99), declare(9, 9), play(-1), hand(4), hand(-1)]
        self.assertEqual(run([BEGIN] + calls), [0] + [-4] * len(calls))

    def test_a_refused_deal_makes_no_game(self):
        for wrong in BAD_DEALS:
            with self.subTest(wrong=wrong):
                self.assertEqual(run([BEGIN, wrong] + ALL_BUT_BEGIN_AND_DEAL), [0, -1] + [-4] * 12)

    def test_calls_without_a_game_leave_no_trace(self):
        calls = [BEGIN] + ALL_BUT_BEGIN_AND_DEAL + [deal()]
        for way in ways_on():
            self.assertEqual(ends(calls, way), ends(NEW, way))


class Phases(unittest.TestCase):
    def test_the_phase_after_each_call_is_answered(self):
        self.assertEqual(
            run(NEW + spoken(18, 1, 20, 0, 22, 0) + [take(1), lay(*AWAY), declare(3, 0)]),
            [0, 0, 1, 0, 1, 0, 1, 3, 4, 5, 6],
        )
        self.assertEqual(
            run(NEW + spoken(0, 0, 18) + [take(0), declare(3, 7)]),
            [0, 0, 0, 2, 3, 5, 6],
        )
        self.assertEqual(run(NEW + spoken(0, 0, 0)), [0, 0, 0, 2, 7])

    def test_the_paths_end_in_their_phases(self):
        for phase, path in PATHS.items():
            self.assertEqual(last(path), phase)

    def test_a_call_outside_its_phase_is_refused(self):
        for phase, path in PATHS.items():
            for calls, phases in OWN_PHASES:
                if phase not in phases:
                    for call in calls:
                        with self.subTest(phase=phase, call=call):
                            self.assertEqual(last(path + [call]), -1)

    def test_what_is_not_allowed_is_refused(self):
        for phase, calls in WRONG_IN_PHASE.items():
            for call in calls + BAD_DEALS:
                with self.subTest(phase=phase, call=call):
                    self.assertEqual(last(PATHS[phase] + [call]), -1)


class RefusalsChangeNothing(unittest.TestCase):
    def test_the_game_goes_on_as_without_them(self):
        for phase, path in PATHS.items():
            refused = refused_in(phase)
            self.assertEqual(ends(path, refused), [-1] * len(refused))
            self.assertEqual(told_behind(path + refused, LOOKS), told_behind(path, LOOKS))
            for way in ways_on():
                with self.subTest(phase=phase, way=way):
                    self.assertEqual(ends(path + refused, way), ends(path, way))

    def test_behind_a_game_that_was_played(self):
        # Ten tricks of grand, and null that is lost with the first one.
        for path in (
            in_play(4) + plays(GRAND_PLAYED),
            in_play(5) + plays(NULL_LOST),
        ):
            refused = refused_in(7)
            self.assertEqual(ends(path, refused), [-1] * len(refused))
            self.assertEqual(told_behind(path + refused, LOOKS), told_behind(path, LOOKS))

    def test_the_hand_is_as_it_was(self):
        for alone in range(3):
            path = []
            for call in ALONE[alone] + [take(1)]:
                path = path + [call] + [wrong for wrong in BAD_DEALS if call != BEGIN]
            wrong = [lay(HANDS[alone][0], HANDS[alone][0]), lay(HANDS[alone][0], HANDS[(alone + 1) % 3][0])]
            self.assertEqual(cards_to_lay(path + wrong), sorted(HANDS[alone] + AWAY))

    def test_a_whole_game_with_refusals_in_between(self):
        script = NEW + spoken(18, 1, 20, 0, 0) + [take(1), lay(HANDS[1][0], AWAY[1]), declare(5, 4)]
        plain = run(script)
        mixed = []
        places = []
        for place, call in enumerate(script):
            places.append(len(mixed))
            mixed.append(call)
            if place >= 1 and plain[place] != 6:
                mixed.extend(BAD_DEALS + PLAYS)
        given = run(mixed)
        self.assertEqual([given[place] for place in places], plain)

    def test_a_deal_in_every_phase_is_a_new_game(self):
        fresh = [BEGIN, deal(OTHER_CARDS)]
        for phase, path in PATHS.items():
            self.assertEqual(ends(path, [deal(OTHER_CARDS)]), [0])
            for way in ways_on():
                with self.subTest(phase=phase, way=way):
                    self.assertEqual(ends(path + [deal(OTHER_CARDS)], way), ends(fresh, way))


if __name__ == "__main__":
    unittest.main()

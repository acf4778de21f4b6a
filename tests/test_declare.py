"""Promise 6: declare."""

import unittest

from calling import ALONE, AWAY, HANDS, LEAST, MOST, PATHS, declare, ends, last, lay, take

GAMES_WITH_TRUMPS = (0, 1, 2, 3, 4)
NULL = 5

WAYS_TO_PHASE_5 = {
    "left": [take(0)],
    "taken": [take(1), lay(*AWAY)],
}


def allowed(game, said, way):
    if game == NULL:
        return said in (0, 4)
    if game in GAMES_WITH_TRUMPS:
        return said in (0, 1, 3, 7) if way == "left" else said == 0
    return False


class Declare(unittest.TestCase):
    def test_each_game_with_each_announcement(self):
        for alone in range(3):
            for way, calls in WAYS_TO_PHASE_5.items():
                for game in range(-3, 12):
                    for said in range(-9, 20):
                        with self.subTest(alone=alone, way=way, game=game, said=said):
                            found = last(ALONE[alone] + calls + [declare(game, said)])
                            self.assertEqual(found, 6 if allowed(game, said, way) else -1)

    def test_the_counts_of_what_is_allowed(self):
        found = {}
        for way, calls in WAYS_TO_PHASE_5.items():
            found[way] = [
                (game, said) for game in range(6) for said in range(8)
                if last(ALONE[1] + calls + [declare(game, said)]) == 6
            ]
        self.assertEqual(found["taken"], [(0, 0), (1, 0), (2, 0), (3, 0), (4, 0), (5, 0), (5, 4)])
        self.assertEqual(len(found["left"]), 5 * 4 + 2)

    def test_numbers_far_off(self):
        for way, calls in WAYS_TO_PHASE_5.items():
            for far in (LEAST, -256, -8, 256, 65536, 262144, MOST):
                with self.subTest(way=way, far=far):
                    self.assertEqual(last(ALONE[1] + calls + [declare(far, 0)]), -1)
                    self.assertEqual(last(ALONE[1] + calls + [declare(4, far)]), -1)
                    self.assertEqual(last(ALONE[1] + calls + [declare(NULL, far)]), -1)

    def test_other_cards_laid_away_are_no_play_from_the_hand_either(self):
        for cards in ([HANDS[1][0], AWAY[0]], HANDS[1][:2]):
            path = PATHS[4] + [lay(*cards)]
            self.assertEqual(ends(path, [declare(4, 1), declare(4, 7), declare(4, 0)]), [-1, -1, 6])

    def test_a_refused_declaration_is_none(self):
        self.assertEqual(
            ends(PATHS[5], [declare(4, 2), declare(6, 0), declare(5, 1), declare(-1, 4), declare(0, 7)]),
            [-1, -1, -1, -1, 6],
        )

    def test_just_once(self):
        self.assertEqual(ends(PATHS[5], [declare(4, 0), declare(4, 0), declare(5, 4)]), [6, -1, -1])

    def test_outside_its_phase(self):
        for phase, path in PATHS.items():
            if phase != 5:
                for game, said in ((0, 0), (4, 0), (4, 7), (5, 0), (5, 4)):
                    with self.subTest(phase=phase, game=game, said=said):
                        self.assertEqual(last(path + [declare(game, said)]), -1)


if __name__ == "__main__":
    unittest.main()

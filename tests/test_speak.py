"""Promise 3: speak."""

import unittest

from calling import (
    ALONE, AWAY, HANDS, LEAST, MOST, NEW, PATHS, VALUES, cards_to_lay, ends, last, run, speak, spoken, take,
)

# What's said, the phases answered, who plays alone then (None: nobody).
WAYS = (
    # 1 passes first.
    ((0, 0, 18), (0, 2, 3), 0),
    ((0, 0, 0), (0, 2, 7), None),
    ((0, 18, 0), (0, 1, 3), 2),
    ((0, 18, 1, 0), (0, 1, 0, 3), 0),
    ((0, 18, 1, 20, 0), (0, 1, 0, 1, 3), 2),
    ((0, 18, 1, 20, 1, 22, 1, 0), (0, 1, 0, 1, 0, 1, 0, 3), 0),
    # 1 says a value, 0 holds, 1 passes.
    ((18, 1, 0, 0), (1, 0, 0, 3), 0),
    ((18, 1, 0, 20, 0), (1, 0, 0, 1, 3), 2),
    ((18, 1, 0, 20, 1, 0), (1, 0, 0, 1, 0, 3), 0),
    ((18, 1, 20, 1, 0, 22, 1, 23, 0), (1, 0, 1, 0, 0, 1, 0, 1, 3), 2),
    # 0 passes what 1 says.
    ((18, 0, 0), (1, 0, 3), 1),
    ((18, 0, 20, 0), (1, 0, 1, 3), 2),
    ((18, 0, 20, 1, 0), (1, 0, 1, 0, 3), 1),
    ((18, 1, 20, 0, 0), (1, 0, 1, 0, 3), 1),
    ((18, 1, 20, 0, 22, 0), (1, 0, 1, 0, 1, 3), 2),
    ((18, 1, 20, 0, 22, 1, 23, 1, 0), (1, 0, 1, 0, 1, 0, 1, 0, 3), 1),
    ((264, 0, 0), (1, 0, 3), 1),
    ((264, 1, 0, 0), (1, 0, 0, 3), 0),
    ((0, 264, 1, 0), (0, 1, 0, 3), 0),
)


class EveryWay(unittest.TestCase):
    def test_the_phases(self):
        for words, phases, alone in WAYS:
            with self.subTest(words=words):
                self.assertEqual(ends(NEW, spoken(*words)), list(phases))

    def test_who_plays_alone(self):
        for words, phases, alone in WAYS:
            if alone is not None:
                with self.subTest(words=words):
                    found = cards_to_lay(NEW + spoken(*words) + [take(1)])
                    self.assertEqual(found, sorted(HANDS[alone] + AWAY))

    def test_behind_the_bidding_nobody_speaks(self):
        for words, phases, alone in WAYS:
            for x in (0, 1, 18, 20, 24, 264, -1):
                with self.subTest(words=words, x=x):
                    self.assertEqual(last(NEW + spoken(*words) + [speak(x)]), -1)


class SaysAValue(unittest.TestCase):
    def test_every_value_in_turn(self):
        for first in (NEW, NEW + spoken(0)):
            words = []
            for value in VALUES:
                words.extend([value, 1])
            self.assertEqual(ends(first, spoken(*words)), [1, 0] * len(VALUES))

    def test_just_the_values_of_the_list(self):
        for first in (NEW, NEW + spoken(0)):
            for x in list(range(-300, 0)) + list(range(1, 600)):
                with self.subTest(x=x):
                    self.assertEqual(last(first + [speak(x)]), 1 if x in VALUES else -1)

    def test_the_ends_of_the_range(self):
        for x in (LEAST, LEAST + 18, MOST, -18, -264, 256 + 18, 65536 + 18):
            with self.subTest(x=x):
                self.assertEqual(last(NEW + [speak(x)]), -1)

    def test_just_the_values_above_the_last(self):
        for said in VALUES:
            for x in VALUES:
                # 1 again, 2 behind 0's passing, 2 behind 1's passing.
                for between in ([1], [0], [1, 0]):
                    with self.subTest(said=said, x=x, between=between):
                        path = NEW + spoken(said, *between)
                        self.assertEqual(last(path + [speak(x)]), 1 if x > said else -1)

    def test_above_the_last_value_there_is_none(self):
        path = NEW + spoken(264, 1)
        self.assertEqual(ends(path, spoken(264, 265, 266, 288, 0)), [-1, -1, -1, -1, 0])

    def test_a_refused_value_is_not_the_last(self):
        self.assertEqual(ends(NEW, spoken(19, 265, 18, 1, 18, 19, 17, 20)), [-1, -1, 1, 0, -1, -1, -1, 1])


class Replies(unittest.TestCase):
    def test_just_0_and_1(self):
        for path in (NEW + spoken(18), NEW + spoken(0, 18), NEW + spoken(18, 0, 20)):
            for x in [LEAST, -2147483647, -20, -2, -1] + list(range(2, 300)) + [MOST]:
                with self.subTest(x=x):
                    self.assertEqual(last(path + [speak(x)]), -1)

    def test_a_held_value_is_the_last(self):
        self.assertEqual(ends(PATHS[1], spoken(1, 18, 20)), [0, -1, 1])

    def test_a_refused_reply_is_none(self):
        self.assertEqual(ends(NEW, spoken(18, 20, 2, -1, 1, 20)), [1, -1, -1, -1, 0, 1])


class LastWord(unittest.TestCase):
    def test_just_0_and_18(self):
        for x in [LEAST, -18, -1] + list(range(1, 18)) + list(range(19, 300)) + [MOST]:
            with self.subTest(x=x):
                self.assertEqual(last(PATHS[2] + [speak(x)]), -1)

    def test_18_is_to_play_alone(self):
        self.assertEqual(last(PATHS[2] + [speak(18)]), 3)
        self.assertEqual(cards_to_lay(ALONE[0] + [take(1)]), sorted(HANDS[0] + AWAY))

    def test_0_ends_the_game(self):
        self.assertEqual(last(PATHS[2] + [speak(0)]), 7)

    def test_a_refused_last_word_is_none(self):
        self.assertEqual(ends(PATHS[2], spoken(20, 1, -1, 18)), [-1, -1, -1, 3])
        self.assertEqual(ends(PATHS[2], spoken(20, 1, -1, 0, 18)), [-1, -1, -1, 7, -1])

    def test_none_where_a_value_was_said(self):
        self.assertEqual(run(NEW + spoken(18, 1, 0, 0))[-1], 3)
        self.assertEqual(run(NEW + spoken(18, 0, 0))[-1], 3)


if __name__ == "__main__":
    unittest.main()

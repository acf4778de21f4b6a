"""The interface: threecards.desk.answers(calls)."""

import contextlib
import io
import unittest

from calling import (
    AWAY, BEGIN, CARDS, EVEN, GRAND_PLAYED, HANDS, LEGAL, LOOKS, NEW, NULL_LOST, PATHS, RESULT, STATE, SURE, bits,
    deal, declare, flat, hand, in_play, lay, play, plays, speak, spoken, take,
)
from threecards.desk import answers

WHOLE = NEW + spoken(18, 1, 20, 0, 0) + [take(1), lay(3, 3), lay(*AWAY), declare(4, 1), declare(4, 0)]
WHOLE_ANSWERED = [0, 0, 1, 0, 1, 0, 3, 4, -1, 5, -1, 6]


def played():
    """A whole game with something shown behind every card, in nearly 300 calls."""
    calls = in_play(4)
    for place, call in enumerate(plays(GRAND_PLAYED)):
        calls = calls + LOOKS[:7 + place % 2] + [call]
    return calls + LOOKS


LISTS = list(PATHS.values()) + [WHOLE, played(), in_play(5) + plays(NULL_LOST) + LOOKS]


class Watched(list):
    """A list that can be read and not changed, not for a while either."""

    def refuse(self, *told):
        raise AssertionError("the list that was handed in is changed")

    __setitem__ = __delitem__ = __iadd__ = __imul__ = refuse
    append = clear = extend = insert = pop = remove = reverse = sort = refuse


class Form(unittest.TestCase):
    def test_an_empty_list(self):
        self.assertEqual(answers([]), [])

    def test_how_calls_and_answers_stand(self):
        calls = [0, 1, 32] + CARDS + [2, 18, 2, 0, 2, 0, 3, 1, 4, AWAY[0], AWAY[0], 4, AWAY[0], AWAY[1], 5, 4, 0]
        self.assertEqual(answers(calls), [1, 0, 1, 0, 1, 1, 1, 0, 1, 3, 1, 4, 1, -1, 1, 5, 1, 6])

    def test_a_whole_line(self):
        expected = []
        for number in WHOLE_ANSWERED:
            expected.extend([1, number])
        self.assertEqual(answers(flat(WHOLE)), expected)

    def test_answers_of_several_numbers(self):
        path = flat(in_play(4))
        start = len(answers(path))
        for call, answered in (
            (LEGAL, [2, 10, bits(EVEN[0])]), (hand(1), [2, 10, bits(EVEN[1])]), (hand(3), [2, 2, bits(EVEN[3])]),
            (STATE, [7, 6, 0, 0, 18, 3, 0, 0]), (hand(4), [1, -1]), (RESULT, [1, -1]), (SURE, [1, -2]),
        ):
            with self.subTest(call=call):
                self.assertEqual(answers(path + call)[start:], answered)
        path = path + flat(plays(GRAND_PLAYED))
        start = len(answers(path))
        for call, answered in (
            (LEGAL, [1, -1]), (hand(1), [2, 0, 0]), (hand(3), [2, 2, bits(EVEN[3])]), (hand(-1), [1, -1]),
            (STATE, [7, 7, 3, 0, 18, 61, 5, 0]), (RESULT, [3, 0, 72, 0]), (SURE, [1, -1]),
        ):
            with self.subTest(call=call):
                self.assertEqual(answers(path + call)[start:], answered)

    def test_sets_are_numbers_of_32_bits(self):
        # 0 has the jack of clubs, and the set is not below 0 for it.
        given = answers(flat(in_play(4)) + hand(0))
        self.assertEqual(given[-2:], [10, sum(2 ** number for number in EVEN[0])])
        self.assertGreater(given[-1], 2 ** 31)

    def test_every_call_is_read_to_its_end(self):
        # Without a game each of them is refused, and the begin behind it is a begin.
        for call in ([2, 0], [3, 0], [4, 0, 0], [5, 0, 0], [6, 0], [7], [8, 0], [9], [10], [11]):
            with self.subTest(call=call):
                self.assertEqual(answers([0] + call + [0] + call + [0]), [1, 0, 1, -4, 1, 0, 1, -4, 1, 0])

    def test_a_list_of_deals_and_plays(self):
        self.assertEqual(answers(flat([BEGIN, deal(), play(3), deal([7] * 32), speak(18)])),
                         [1, 0, 1, 0, 1, -1, 1, -1, 1, 1])

    def test_three_hundred_calls(self):
        self.assertEqual(answers([0] * 300), [1, 0] * 300)
        self.assertEqual(answers(flat([deal()] * 300)), [1, 0] * 300)
        self.assertEqual(answers(flat(NEW + [speak(-1)] * 298)), [1, 0] * 2 + [1, -1] * 298)
        self.assertEqual(answers(flat(NEW + [STATE] * 298)), [1, 0] * 2 + [7, 0, 1, 3, 0, 0, 0, 0] * 298)
        self.assertLessEqual(len(played()), 300)

    def test_whole_numbers_in_a_list(self):
        for path in LISTS:
            given = answers(flat(path))
            self.assertIs(type(given), list)
            for number in given:
                self.assertIs(type(number), int)


class HandedIn(unittest.TestCase):
    def test_the_list_stays_as_it_was(self):
        for path in LISTS + [[], [BEGIN, deal([5] * 32)]]:
            calls = flat(path)
            before = list(calls)
            answers(calls)
            self.assertEqual(calls, before)

    def test_the_list_is_not_changed_for_a_while_either(self):
        for path in LISTS:
            self.assertEqual(answers(Watched(flat(path))), answers(flat(path)))

    def test_the_answer_is_a_list_of_its_own(self):
        calls = flat(WHOLE)
        given = answers(calls)
        kept = list(given)
        given.clear()
        self.assertEqual(answers(calls), kept)
        empty = []
        self.assertIsNot(answers(empty), empty)


class NothingKept(unittest.TestCase):
    def test_a_second_run_answers_the_same(self):
        for path in LISTS:
            calls = flat(path)
            first = answers(calls)
            self.assertEqual(answers(calls), first)
            self.assertEqual(answers(list(calls)), first)

    def test_no_game_is_left_over(self):
        for phase, path in PATHS.items():
            with self.subTest(phase=phase):
                answers(flat(path))
                self.assertEqual(answers([2, 18, 3, 1, 5, 4, 0]), [1, -4, 1, -4, 1, -4])
                self.assertEqual(answers(flat(LOOKS)), [1, -4] * len(LOOKS))

    def test_other_lists_in_between_change_nothing(self):
        firsts = {phase: answers(flat(path)) for phase, path in PATHS.items()}
        for phase in reversed(list(PATHS)):
            answers(flat(PATHS[4] + [lay(*HANDS[1][:2])]))
            self.assertEqual(answers(flat(PATHS[phase])), firsts[phase])

    def test_nothing_is_printed(self):
        out = io.StringIO()
        err = io.StringIO()
        with contextlib.redirect_stdout(out), contextlib.redirect_stderr(err):
            for path in LISTS:
                answers(flat(path))
        self.assertEqual((out.getvalue(), err.getvalue()), ("", ""))


if __name__ == "__main__":
    unittest.main()

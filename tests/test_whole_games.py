"""Promises 7 to 11 over whole games, against a second telling of the rules."""

import unittest

from calling import (
    BEGIN, GRAND, LEGAL, NULL, RESULT, STATE, Table, VALUES, bid_for, counted, deal, declare, draws, flat, hand, lay,
    play, shuffled, take, told, told_behind,
)
from threecards.desk import answers

ALL_HANDS = [hand(0), hand(1), hand(2), hand(3)]
PLAY = 6
BASES = (9, 10, 11, 12, 24)


class Script:
    """A whole game's calls with what each has to answer; every choice is drawn."""

    def __init__(self, game, alone, from_hand, seed):
        self.calls = []
        self.expected = []
        self.drawn = draws(seed + 1000 * game + 100 * alone + 7)
        self.game, self.alone, self.from_hand = game, alone, from_hand
        dealt = shuffled(seed)
        self.hands = [dealt[:10], dealt[10:20], dealt[20:30]]
        self.away = dealt[30:]
        self.had = self.hands[alone] + self.away
        self.begin(dealt)
        self.table = Table(game, alone, self.hands, self.away)
        while not self.table.over:
            self.look()
            number = self.choose(self.table.allowed())
            self.table.play(number)
            self.ask(play(number), [7 if self.table.over else 6])
        self.look()

    def choose(self, things):
        return things[next(self.drawn) % len(things)]

    def ask(self, call, answer):
        self.calls.append(call)
        self.expected.append(answer)

    def begin(self, dealt):
        self.bid = self.choose(VALUES[:20] if next(self.drawn) % 4 else VALUES)
        said = [0, 4] if self.game == NULL else [0, 1, 3, 7] if self.from_hand else [0]
        self.said = self.choose(said)
        self.ask(BEGIN, [0])
        self.ask(deal(dealt), [0])
        phases = ([1, 0, 0, 3], [1, 0, 3], [0, 1, 3])[self.alone]
        for call, phase in zip(bid_for(self.alone, self.bid), phases):
            self.ask(call, [phase])
        if self.from_hand:
            self.ask(take(0), [5])
        else:
            first = self.choose(self.had)
            second = self.choose([number for number in self.had if number != first])
            self.away = [first, second]
            self.hands[self.alone] = [number for number in self.had if number not in self.away]
            self.ask(take(1), [4])
            self.ask(lay(first, second), [5])
        self.ask(declare(self.game, self.said), [6])

    def look(self):
        table = self.table
        if table.over:
            self.ask(STATE, [7, 3, self.alone, self.bid, table.points, table.tricks, 0])
            self.ask(LEGAL, [-1])
            comes_to = self.comes_to()
            self.ask(RESULT, [0, abs(comes_to), int(comes_to < 0)])
        else:
            who = table.turn()
            self.ask(STATE, [6, who, self.alone, self.bid, table.points, table.tricks, len(table.trick)])
            self.ask(LEGAL, counted(table.allowed()))
            self.ask(RESULT, [-1])
        for call, numbers in zip(ALL_HANDS, table.hands + [self.away]):
            self.ask(call, counted(numbers))

    def comes_to(self):
        if self.game == NULL:
            base = 23
            worth = {(False, 0): 23, (True, 0): 35, (False, 4): 46, (True, 4): 59}[self.from_hand, self.said]
            won = self.table.tricks == 0
        else:
            base = BASES[self.game]
            worth = base * self.times()
            won = self.table.points > (60, 89, None, 119, None, None, None, 119)[self.said]
            won = won and (self.said < 3 or self.table.tricks == 10)
        if worth < self.bid:
            lost = base
            while lost < self.bid:
                lost += base
            return -2 * lost
        return worth if won else -2 * worth

    def times(self):
        in_order = [31, 23, 15, 7]
        if self.game < GRAND:
            in_order += range(8 * self.game + 6, 8 * self.game - 1, -1)
        had = "".join("x" if number in self.had else "-" for number in in_order)
        tops = len(had) - len(had.lstrip(had[0]))
        schneider = not 31 <= self.table.points <= 89 or self.said >= 1
        schwarz = self.table.tricks in (0, 10) or self.said >= 3
        return tops + 1 + self.from_hand + schneider + schwarz + {0: 0, 1: 1, 3: 2, 7: 3}[self.said]


def scripts(seeds):
    for game in range(6):
        for alone in range(3):
            for from_hand in (False, True):
                for seed in seeds:
                    yield Script(game, alone, from_hand, seed)


def is_move(call):
    return call[0] <= PLAY


def moves(script):
    return [call for call in script.calls if is_move(call)]


class WholeGames(unittest.TestCase):
    def test_every_answer(self):
        for script in scripts(range(1, 9)):
            with self.subTest(game=script.game, alone=script.alone, from_hand=script.from_hand):
                self.assertLessEqual(len(script.calls), 300)
                for call, found, expected in zip(script.calls, told(script.calls), script.expected):
                    self.assertEqual((call, found), (call, expected))

    def test_the_games_are_of_many_kinds(self):
        # What is checked above is worth something only where all of this comes up.
        ends = [(script.game == NULL, script.comes_to() > 0) for script in scripts(range(1, 9))]
        for null in (False, True):
            for won in (False, True):
                self.assertIn((null, won), ends)

    def test_games_one_behind_another(self):
        # Without the looks on the way seven games go into one list.
        calls = []
        expected = []
        for script in list(scripts([9]))[::6]:
            calls.extend(moves(script))
            expected.extend(answer for call, answer in zip(script.calls, script.expected) if is_move(call))
            calls.append(RESULT)
            comes_to = script.comes_to()
            expected.append([0, abs(comes_to), int(comes_to < 0)])
        self.assertLessEqual(len(calls), 300)
        self.assertEqual(told(calls), expected)

    def test_a_game_broken_off_leaves_nothing(self):
        first, second = [moves(script) for script in list(scripts([10]))[3:25:21]]
        again = second + ALL_HANDS + [STATE, RESULT]
        for count in (3, 5, 8, 20, len(first)):
            # The second game's deal comes with a begin of its own, and without.
            for start in (again, again[1:]):
                with self.subTest(count=count):
                    self.assertEqual(told_behind(first[:count], start), told(again)[-len(start):])

    def test_the_list_stays_and_a_second_run_answers_the_same(self):
        for script in scripts([12]):
            calls = flat(script.calls)
            before = list(calls)
            first = answers(calls)
            self.assertEqual(calls, before)
            self.assertEqual(answers(calls), first)
            self.assertEqual(calls, before)


if __name__ == "__main__":
    unittest.main()

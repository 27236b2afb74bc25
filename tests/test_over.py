"""Point 3: over, any, deep, needs, bare, state."""

import unittest
from itertools import combinations

from plain import (ANY, BARE, BEATS, DEEP, FEWEST, GAMES, GAMES_OF, GREEDY, LEFT, MANY, NEEDS, OVER, RING_OF_3,
                   RING_OF_7, SQUARES, START, STATE, TOP, TURN, WINS, any_by_trying, every_small_league, last,
                   league, say, some_larger_leagues, those_over, told_as)

# 0 beats 1 and 2, 1 beats 2, 2 beats 3, 3 beats 0 and 1.
OF_4 = 20


class Over(unittest.TestCase):
    def test_ordinary_sets(self):
        asked = (1, 2, 3, 4, 5, 6, 8, 9, 12)
        told = say((START, 4), (GAMES, OF_4), *[(OVER, chosen) for chosen in asked])[2:]
        self.assertEqual(told, [[1, 3], [2, 0, 3], [1, 3], [2, 0, 1], [0], [1, 0], [1, 2], [0], [0]])

    def test_players_that_there_are_not(self):
        for players in range(1, 8):
            for chosen in (2 ** players, 2 ** players + 1, 2 ** 7, 2 ** 31, TOP):
                with self.subTest(players=players, chosen=chosen):
                    self.assertEqual(last((START, players), (OVER, chosen)), [-22])

    def test_everybody_is_over_nobody_rising(self):
        for players in range(1, 8):
            for number in (0, 2 ** GAMES_OF[players] - 1):
                with self.subTest(players=players, number=number):
                    told = last((START, players), (GAMES, number), (OVER, 0))
                    self.assertEqual(told, [players, *range(players)])

    def test_nobody_is_over_all(self):
        for players in range(1, 8):
            for number in (0, 2 ** GAMES_OF[players] - 1):
                with self.subTest(players=players, number=number):
                    self.assertEqual(last((START, players), (GAMES, number), (OVER, 2 ** players - 1)), [0])

    def test_a_league_in_order(self):
        told = say((START, 7), *[(OVER, 2 ** one) for one in range(7)])[1:]
        self.assertEqual(told, [[one, *range(one)] for one in range(7)])

    def test_who_is_in_the_set_is_not_over_it(self):
        self.assertEqual(last((START, 3), (OVER, 3)), [0])
        self.assertEqual(last((START, 3), (OVER, 6)), [1, 0])

    def test_against_plain_trying(self):
        for players, number in every_small_league() + some_larger_leagues():
            with self.subTest(players=players, number=number):
                pairs = league(players, number)
                told = say((START, players), (GAMES, number), *[(OVER, s) for s in range(2 ** players)])[2:]
                for size in range(players + 1):
                    for chosen in combinations(range(players), size):
                        over = those_over(players, pairs, chosen)
                        self.assertEqual(told[told_as(chosen)], [len(over), *over])


class AnySo(unittest.TestCase):
    def test_none(self):
        for players in range(1, 8):
            with self.subTest(players=players):
                self.assertEqual(last((START, players), (ANY, 0)), [1])

    def test_as_many_as_there_are(self):
        for players in range(1, 8):
            with self.subTest(players=players):
                self.assertEqual(last((START, players), (ANY, players)), [0])
        self.assertEqual(last((START, 7), (GAMES, RING_OF_7), (ANY, 7)), [0])

    def test_more_than_there_are(self):
        for players in range(1, 8):
            for size in (players + 1, 8, 20, 21, 32, 2 ** 31, TOP - 1, TOP):
                with self.subTest(players=players, size=size):
                    # There are no such sets, so of all of them it's so.
                    self.assertEqual(last((START, players), (ANY, size)), [1])

    def test_more_than_there_are_by_a_power_of_two(self):
        for power in range(3, 32):
            with self.subTest(power=power):
                told = say((START, 3), *[(ANY, 2 ** power + size) for size in range(4)])[1:]
                self.assertEqual(told, [[1]] * 4)

    def test_a_league_in_order(self):
        for players in range(1, 8):
            for size in range(1, players + 1):
                with self.subTest(players=players, size=size):
                    self.assertEqual(last((START, players), (ANY, size)), [0])

    def test_by_squares(self):
        told = say((START, 1), (SQUARES, 3), *[(ANY, size) for size in range(5)])[2:]
        self.assertEqual(told, [[1], [1], [0], [0], [1]])
        told = say((START, 1), (SQUARES, 7), *[(ANY, size) for size in range(9)])[2:]
        self.assertEqual(told, [[1], [1], [1], [0], [0], [0], [0], [0], [1]])

    def test_some_sets_are_not_enough_to_say_so(self):
        # 2 and 3 are beaten by 0, but nobody beat 0.
        self.assertEqual(last((START, 4), (ANY, 2)), [0])
        # One game away from the squares of 7, and some two are beaten by nobody.
        self.assertEqual(last((START, 7), (GAMES, RING_OF_7 ^ 1), (ANY, 2)), [0])

    def test_against_plain_trying(self):
        for players, number in every_small_league() + some_larger_leagues():
            with self.subTest(players=players, number=number):
                pairs = league(players, number)
                told = say((START, players), (GAMES, number), *[(ANY, size) for size in range(10)])[2:]
                for size in range(10):
                    self.assertEqual(told[size], [1 if any_by_trying(players, pairs, size) else 0])


class Deep(unittest.TestCase):
    def test_one_player(self):
        self.assertEqual(last((START, 1), (DEEP,)), [0])

    def test_a_league_in_order(self):
        for players in range(1, 8):
            for number in (0, 2 ** GAMES_OF[players] - 1):
                with self.subTest(players=players, number=number):
                    self.assertEqual(last((START, players), (GAMES, number), (DEEP,)), [0])

    def test_by_squares(self):
        self.assertEqual(say((START, 1), (SQUARES, 3), (DEEP,), (SQUARES, 7), (DEEP,))[1:],
                         [[2], [1], [140596], [2]])

    def test_ordinary_leagues(self):
        self.assertEqual(last((START, 4), (GAMES, OF_4), (DEEP,)), [1])
        self.assertEqual(last((START, 7), (GAMES, RING_OF_7 ^ 1), (DEEP,)), [1])

    def test_behind_a_turn(self):
        told = say((START, 3), (DEEP,), (TURN, 0, 2), (DEEP,), (TURN, 0, 1), (DEEP,))
        self.assertEqual(told, [[0], [0], [2], [1], [1], [0]])

    def test_against_plain_trying(self):
        for players, number in every_small_league() + some_larger_leagues():
            with self.subTest(players=players, number=number):
                pairs = league(players, number)
                # Above how many there are it's so again; the first failure ends it all the same.
                depth = max(k for k in range(10)
                            if all(any_by_trying(players, pairs, fewer) for fewer in range(k + 1)))
                self.assertEqual(last((START, players), (GAMES, number), (DEEP,)), [depth])


class Needs(unittest.TestCase):
    def test_up_to_twenty(self):
        told = say((START, 1), *[(NEEDS, size) for size in range(21)])[1:]
        self.assertEqual(told[:5], [[1], [3], [7], [15], [31]])
        self.assertEqual(told[20], [2097151])
        self.assertEqual(told, [[sum(2 ** power for power in range(size + 1))] for size in range(21)])

    def test_above_twenty(self):
        for size in (21, 22, 31, 32, 2 ** 31, TOP):
            with self.subTest(size=size):
                self.assertEqual(last((START, 7), (NEEDS, size)), [-22])

    def test_the_league_does_not_matter(self):
        for players in range(1, 8):
            with self.subTest(players=players):
                told = say((START, players), (NEEDS, 0), (NEEDS, 2), (NEEDS, 20), (NEEDS, 21))
                self.assertEqual(told[1:], [[1], [7], [2097151], [-22]])

    def test_it_changes_nothing(self):
        told = say((START, 4), (GAMES, OF_4), (NEEDS, 3), (STATE,), (NEEDS, 21), (STATE,), (BEATS, 3, 0))
        self.assertEqual(told[2:], [[15], [4, OF_4], [-22], [4, OF_4], [1]])


class Bare(unittest.TestCase):
    def test_one_player_alone(self):
        self.assertEqual(last((START, 1), (BARE,)), [1, 0])

    def test_the_last_in_order(self):
        for players in range(1, 8):
            with self.subTest(players=players):
                self.assertEqual(last((START, players), (BARE,)), [1, players - 1])

    def test_the_first_if_the_order_is_turned_round(self):
        for players in range(1, 8):
            with self.subTest(players=players):
                self.assertEqual(last((START, players), (GAMES, 2 ** GAMES_OF[players] - 1), (BARE,)), [1, 0])

    def test_nobody(self):
        self.assertEqual(last((START, 3), (GAMES, RING_OF_3), (BARE,)), [0])
        self.assertEqual(last((START, 4), (GAMES, OF_4), (BARE,)), [0])
        self.assertEqual(last((START, 7), (GAMES, RING_OF_7), (BARE,)), [0])

    def test_behind_a_turn(self):
        told = say((START, 3), (BARE,), (TURN, 1, 2), (BARE,), (TURN, 0, 1), (TURN, 0, 2), (BARE,))
        self.assertEqual(told, [[0], [1, 2], [2], [1, 1], [1], [2], [1, 0]])

    def test_against_plain_trying(self):
        for players, number in every_small_league() + some_larger_leagues():
            with self.subTest(players=players, number=number):
                winners = {winner for winner, loser in league(players, number)}
                bare = [one for one in range(players) if one not in winners]
                self.assertEqual(last((START, players), (GAMES, number), (BARE,)), [len(bare), *bare])


class State(unittest.TestCase):
    def test_behind_start(self):
        for players in range(1, 8):
            with self.subTest(players=players):
                self.assertEqual(say((START, players), (STATE,)), [[0], [players, 0]])

    def test_behind_games(self):
        for players in range(1, 8):
            for number in (0, 2 ** GAMES_OF[players] // 2, 2 ** GAMES_OF[players] - 1):
                with self.subTest(players=players, number=number):
                    self.assertEqual(last((START, players), (GAMES, number), (STATE,)), [players, number])

    def test_behind_turn(self):
        told = say((START, 4), (TURN, 0, 1), (STATE,), (TURN, 3, 2), (STATE,), (TURN, 1, 0), (STATE,))
        self.assertEqual(told, [[0], [1], [4, 1], [3], [4, 33], [0], [4, 32]])

    def test_behind_squares(self):
        told = say((START, 4), (SQUARES, 3), (STATE,), (SQUARES, 7), (STATE,))
        self.assertEqual(told[1:], [[2], [3, 2], [140596], [7, 140596]])

    def test_behind_what_was_refused(self):
        refused = ((START, 0), (START, 8), (START, TOP), (GAMES, 64), (GAMES, TOP), (TURN, 0, 4), (TURN, 4, 0),
                   (TURN, 1, 1), (BEATS, 0, 4), (WINS, 4), (LEFT, 16), (OVER, 16), (SQUARES, 4), (SQUARES, TOP),
                   (NEEDS, 21), (NEEDS, TOP))
        for call in refused:
            with self.subTest(call=call):
                told = say((START, 4), (GAMES, 37), call, (STATE,))
                self.assertIn(told[2], ([-22], [-2]))
                self.assertEqual(told[3], [4, 37])

    def test_behind_what_only_asks(self):
        asked = ((BEATS, 0, 1), (WINS, 0), (LEFT, 1), (FEWEST,), (MANY,), (GREEDY,), (OVER, 1), (ANY, 1), (DEEP,),
                 (NEEDS, 2), (BARE,), (STATE,))
        for call in asked:
            with self.subTest(call=call):
                self.assertEqual(last((START, 4), (GAMES, 37), call, (STATE,)), [4, 37])


if __name__ == "__main__":
    unittest.main()

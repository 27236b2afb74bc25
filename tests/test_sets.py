"""Point 2: covers, left, fewest, first, many, greedy."""

import unittest
from itertools import combinations

from plain import (COVERS, FEWEST, FIRST, GAMES, GAMES_OF, GREEDY, LEFT, MANY, RING_OF_3, RING_OF_7, START,
                   STATE, TOP, TURN, every_small_league, fewest_by_trying, first_by_trying, greedy_by_trying,
                   last, league, say, some_larger_leagues, those_left, told_as)

# 0 beats 1 and 2, 1 beats 2, 2 beats 3, 3 beats 0 and 1.
OF_4 = 20

# Players, games' number, and who is taken one by one.
NOT_LEFT_TAKES_MOST = ((7, 22066, [0, 4]), (7, 52786, [0, 3]), (7, 2075022, [0, 5]))
SELF_COUNTS = ((3, 5, [0, 1]), (4, 29, [2, 0]), (7, 2085724, [4, 6]))
NOT_RISING = ((4, 6, [1, 0]), (4, 22, [2, 0]), (4, 46, [2, 1]))
MORE_THAN_FEWEST = ((7, 26154, [0, 1, 3]), (7, 144500, [0, 1, 2]))


class Covers(unittest.TestCase):
    def test_ordinary_sets(self):
        asked = (1, 3, 5, 6, 8, 10, 12, 15)
        told = say((START, 4), (GAMES, OF_4), *[(COVERS, chosen) for chosen in asked])[2:]
        self.assertEqual(told, [[0], [0], [1], [0], [0], [1], [1], [1]])

    def test_players_that_there_are_not(self):
        for players in range(1, 8):
            for chosen in (2 ** players, 2 ** players + 1, 2 ** 7, 2 ** 31, TOP):
                with self.subTest(players=players, chosen=chosen):
                    self.assertEqual(last((START, players), (COVERS, chosen)), [-22])

    def test_nobody_and_all(self):
        for players in range(1, 8):
            with self.subTest(players=players):
                told = say((START, players), (COVERS, 0), (COVERS, 2 ** players - 1))
                self.assertEqual(told[1:], [[0], [1]])

    def test_a_league_in_order_needs_the_first(self):
        for chosen in range(128):
            with self.subTest(chosen=chosen):
                self.assertEqual(last((START, 7), (COVERS, chosen)), [chosen % 2])


class Left(unittest.TestCase):
    def test_ordinary_sets(self):
        asked = (1, 2, 3, 4, 5, 8, 9)
        told = say((START, 4), (GAMES, OF_4), *[(LEFT, chosen) for chosen in asked])[2:]
        self.assertEqual(told, [[1, 3], [2, 0, 3], [1, 3], [2, 0, 1], [0], [1, 2], [0]])

    def test_players_that_there_are_not(self):
        for players in range(1, 8):
            for chosen in (2 ** players, 2 ** players + 1, 2 ** 7, 2 ** 31, TOP):
                with self.subTest(players=players, chosen=chosen):
                    self.assertEqual(last((START, players), (LEFT, chosen)), [-22])

    def test_by_nobody_all_are_left_rising(self):
        for players in range(1, 8):
            with self.subTest(players=players):
                self.assertEqual(last((START, players), (LEFT, 0)), [players, *range(players)])

    def test_by_all_nobody_is_left(self):
        for players in range(1, 8):
            with self.subTest(players=players):
                self.assertEqual(last((START, players), (LEFT, 2 ** players - 1)), [0])

    def test_by_the_last_in_order_all_others_are_left(self):
        self.assertEqual(last((START, 7), (LEFT, 64)), [6, 0, 1, 2, 3, 4, 5])

    def test_one_of_the_set_is_not_left_though_beaten_by_none_of_it(self):
        self.assertEqual(last((START, 3), (LEFT, 5)), [0])


class FewestAndFirst(unittest.TestCase):
    def check(self, players, number, first):
        told = say((START, players), (GAMES, number), (FEWEST,), (FIRST,))
        self.assertEqual(told[2:], [[len(first) - 1], first])

    def test_a_league_in_order(self):
        for players in range(1, 8):
            with self.subTest(players=players):
                told = say((START, players), (FEWEST,), (FIRST,))
                self.assertEqual(told[1:], [[1], [1, 0]])

    def test_the_order_turned_round(self):
        for players in range(1, 8):
            with self.subTest(players=players):
                games = players * (players - 1) // 2
                self.check(players, 2 ** games - 1, [2 ** (players - 1), players - 1])

    def test_three_that_need_two(self):
        self.check(3, RING_OF_3, [3, 0, 1])
        self.check(3, 7 - RING_OF_3, [3, 0, 1])

    def test_seven_that_need_three(self):
        self.check(7, RING_OF_7, [7, 0, 1, 2])

    def test_the_least_number_that_is_enough_and_not_less(self):
        self.check(4, OF_4, [5, 0, 2])

    def test_they_change_nothing(self):
        told = say((START, 4), (GAMES, OF_4), (FIRST,), (FEWEST,), (LEFT, 3), (COVERS, 3), (FIRST,), (FEWEST,))
        self.assertEqual(told[2:], [[5, 0, 2], [2], [1, 3], [0], [5, 0, 2], [2]])


class Many(unittest.TestCase):
    def check(self, players, number, many):
        self.assertEqual(last((START, players), (GAMES, number), (MANY,)), [many])

    def test_a_league_in_order(self):
        for players in range(1, 8):
            with self.subTest(players=players):
                self.check(players, 0, 1)
                self.check(players, 2 ** GAMES_OF[players] - 1, 1)

    def test_ordinary_leagues(self):
        # Of the sets of two all but 0 and 1, 1 and 2.
        self.check(4, OF_4, 4)
        self.check(3, RING_OF_3, 3)
        # Of 35 sets of three each player is over one.
        self.check(7, RING_OF_7, 28)

    def test_behind_a_turn(self):
        told = say((START, 3), (MANY,), (TURN, 0, 2), (MANY,), (MANY,), (STATE,))
        self.assertEqual(told[1:], [[1], [2], [3], [3], [3, RING_OF_3]])

    def test_against_plain_trying(self):
        for players, number in every_small_league() + some_larger_leagues():
            with self.subTest(players=players, number=number):
                self.check(players, number, len(fewest_by_trying(players, league(players, number))))


class Greedy(unittest.TestCase):
    def check(self, players, number, taken):
        told = last((START, players), (GAMES, number), (GREEDY,))
        self.assertEqual(told, [len(taken), *taken])

    def test_one_player(self):
        self.check(1, 0, [0])

    def test_a_league_in_order(self):
        for players in range(1, 8):
            with self.subTest(players=players):
                self.check(players, 0, [0])
                self.check(players, 2 ** GAMES_OF[players] - 1, [players - 1])

    def test_of_like_ones_the_first(self):
        # Each takes two of the ring; then 2 alone is left, and 1 takes it as 2 does.
        self.check(3, RING_OF_3, [0, 1])
        self.check(3, 7 - RING_OF_3, [0, 1])
        self.check(7, RING_OF_7, [0, 1, 2])

    def test_who_is_not_left_may_be_taken(self):
        # 0 beats 1 and 2, and 3 is left alone, whom 2 beat.
        self.check(4, OF_4, [0, 2])

    def test_who_is_not_left_may_take_most(self):
        for players, number, taken in NOT_LEFT_TAKES_MOST:
            with self.subTest(players=players, number=number):
                pairs = league(players, number)
                left = those_left(players, pairs, taken[:1])
                takes = [sum(1 for other in left if other == one or (one, other) in pairs)
                         for one in range(players)]
                self.assertNotIn(taken[1], left)
                self.assertTrue(all(takes[taken[1]] > takes[one] for one in left))
                self.check(players, number, taken)

    def test_oneself_counts_if_one_is_left(self):
        for players, number, taken in SELF_COUNTS:
            with self.subTest(players=players, number=number):
                self.check(players, number, taken)

    def test_as_taken_and_not_rising(self):
        for players, number, taken in NOT_RISING:
            with self.subTest(players=players, number=number):
                self.assertNotEqual(taken, sorted(taken))
                self.check(players, number, taken)

    def test_more_than_the_fewest(self):
        for players, number, taken in MORE_THAN_FEWEST:
            with self.subTest(players=players, number=number):
                self.check(players, number, taken)
                self.assertEqual(last((START, players), (GAMES, number), (FEWEST,)), [len(taken) - 1])

    def test_it_changes_nothing(self):
        told = say((START, 4), (GAMES, OF_4), (GREEDY,), (GREEDY,), (STATE,))
        self.assertEqual(told[2:], [[2, 0, 2], [2, 0, 2], [4, OF_4]])

    def test_against_plain_trying(self):
        for players, number in every_small_league() + some_larger_leagues():
            with self.subTest(players=players, number=number):
                self.check(players, number, greedy_by_trying(players, league(players, number)))

    def test_every_league_of_five(self):
        for number in range(2 ** 10):
            with self.subTest(number=number):
                self.check(5, number, greedy_by_trying(5, league(5, number)))


class AgainstPlainTrying(unittest.TestCase):
    def check(self, players, number):
        """Every set's covers and left, and what fewest and first then have to be."""
        pairs = league(players, number)
        first = first_by_trying(players, pairs)
        begin = ((START, players), (GAMES, number))
        told = say(*begin, (FEWEST,), (FIRST,), *[(COVERS, chosen) for chosen in range(2 ** players)])[2:]
        self.assertEqual(told[0], [len(first)])
        self.assertEqual(told[1], [told_as(first), *first])
        # Of what is told alone: the first is enough, and no smaller set is.
        self.assertEqual(told[2 + told[1][0]], [1])
        for chosen in range(2 ** players):
            if bin(chosen).count("1") < told[0][0]:
                self.assertEqual(told[2 + chosen], [0])
        left = say(*begin, *[(LEFT, chosen) for chosen in range(2 ** players)])[2:]
        for size in range(players + 1):
            for chosen in combinations(range(players), size):
                others = those_left(players, pairs, chosen)
                self.assertEqual(left[told_as(chosen)], [len(others), *others])
                self.assertEqual(told[2 + told_as(chosen)], [0 if others else 1])

    def test_every_league_of_up_to_four(self):
        for players, number in every_small_league():
            with self.subTest(players=players, number=number):
                self.check(players, number)

    def test_larger_leagues(self):
        for players, number in some_larger_leagues():
            with self.subTest(players=players, number=number):
                self.check(players, number)

    def test_first_of_every_league_of_five(self):
        for number in range(2 ** 10):
            with self.subTest(number=number):
                first = first_by_trying(5, league(5, number))
                told = say((START, 5), (GAMES, number), (FEWEST,), (FIRST,))
                self.assertEqual(told[2:], [[len(first)], [told_as(first), *first]])


if __name__ == "__main__":
    unittest.main()

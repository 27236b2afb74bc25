"""Point 2: covers, left, fewest, first; and what holds of the fewest."""

import unittest
from itertools import combinations

from plain import (COVERS, FEWEST, FIRST, GAMES, LEFT, RING_OF_3, RING_OF_7, START, TOP,
                   first_by_trying, last, league, say, those_left, told_as)

# 0 beats 1 and 2, 1 beats 2, 2 beats 3, 3 beats 0 and 1.
OF_4 = 20


class Covers(unittest.TestCase):
    def test_ordinary_sets(self):
        asked = (1, 3, 5, 6, 8, 10, 12, 15)
        told = say((START, 4), (GAMES, OF_4), *[(COVERS, chosen) for chosen in asked])[2:]
        self.assertEqual(told, [[0], [0], [1], [0], [0], [1], [1], [1]])

    def test_players_that_there_are_not(self):
        for players in range(1, 8):
            for chosen in (2 ** players, 2 ** players + 1, 2 ** 7, 2 ** 31, TOP):
                with self.subTest(players=players, chosen=chosen):
                    self.assertEqual(last((START, players), (COVERS, chosen)), [-22])

    def test_nobody_and_all(self):
        for players in range(1, 8):
            with self.subTest(players=players):
                told = say((START, players), (COVERS, 0), (COVERS, 2 ** players - 1))
                self.assertEqual(told[1:], [[0], [1]])

    def test_a_league_in_order_needs_the_first(self):
        for chosen in range(128):
            with self.subTest(chosen=chosen):
                self.assertEqual(last((START, 7), (COVERS, chosen)), [chosen % 2])


class Left(unittest.TestCase):
    def test_ordinary_sets(self):
        asked = (1, 2, 3, 4, 5, 8, 9)
        told = say((START, 4), (GAMES, OF_4), *[(LEFT, chosen) for chosen in asked])[2:]
        self.assertEqual(told, [[1, 3], [2, 0, 3], [1, 3], [2, 0, 1], [0], [1, 2], [0]])

    def test_players_that_there_are_not(self):
        for players in range(1, 8):
            for chosen in (2 ** players, 2 ** players + 1, 2 ** 7, 2 ** 31, TOP):
                with self.subTest(players=players, chosen=chosen):
                    self.assertEqual(last((START, players), (LEFT, chosen)), [-22])

    def test_by_nobody_all_are_left_rising(self):
        for players in range(1, 8):
            with self.subTest(players=players):
                self.assertEqual(last((START, players), (LEFT, 0)), [players, *range(players)])

    def test_by_all_nobody_is_left(self):
        for players in range(1, 8):
            with self.subTest(players=players):
                self.assertEqual(last((START, players), (LEFT, 2 ** players - 1)), [0])

    def test_by_the_last_in_order_all_others_are_left(self):
        self.assertEqual(last((START, 7), (LEFT, 64)), [6, 0, 1, 2, 3, 4, 5])

    def test_one_of_the_set_is_not_left_though_beaten_by_none_of_it(self):
        self.assertEqual(last((START, 3), (LEFT, 5)), [0])


class FewestAndFirst(unittest.TestCase):
    def check(self, players, number, first):
        told = say((START, players), (GAMES, number), (FEWEST,), (FIRST,))
        self.assertEqual(told[2:], [[len(first) - 1], first])

    def test_a_league_in_order(self):
        for players in range(1, 8):
            with self.subTest(players=players):
                told = say((START, players), (FEWEST,), (FIRST,))
                self.assertEqual(told[1:], [[1], [1, 0]])

    def test_the_order_turned_round(self):
        for players in range(1, 8):
            with self.subTest(players=players):
                games = players * (players - 1) // 2
                self.check(players, 2 ** games - 1, [2 ** (players - 1), players - 1])

    def test_three_that_need_two(self):
        self.check(3, RING_OF_3, [3, 0, 1])
        self.check(3, 7 - RING_OF_3, [3, 0, 1])

    def test_seven_that_need_three(self):
        self.check(7, RING_OF_7, [7, 0, 1, 2])

    def test_the_least_number_that_is_enough_and_not_less(self):
        self.check(4, OF_4, [5, 0, 2])

    def test_they_change_nothing(self):
        told = say((START, 4), (GAMES, OF_4), (FIRST,), (FEWEST,), (LEFT, 3), (COVERS, 3), (FIRST,), (FEWEST,))
        self.assertEqual(told[2:], [[5, 0, 2], [2], [1, 3], [0], [5, 0, 2], [2]])


class AgainstPlainTrying(unittest.TestCase):
    def check(self, players, number):
        """Every set's covers and left, and what fewest and first then have to be."""
        pairs = league(players, number)
        first = first_by_trying(players, pairs)
        begin = ((START, players), (GAMES, number))
        told = say(*begin, (FEWEST,), (FIRST,), *[(COVERS, chosen) for chosen in range(2 ** players)])[2:]
        self.assertEqual(told[0], [len(first)])
        self.assertEqual(told[1], [told_as(first), *first])
        # Of what is told alone: the first is enough, and no smaller set is.
        self.assertEqual(told[2 + told[1][0]], [1])
        for chosen in range(2 ** players):
            if bin(chosen).count("1") < told[0][0]:
                self.assertEqual(told[2 + chosen], [0])
        left = say(*begin, *[(LEFT, chosen) for chosen in range(2 ** players)])[2:]
        for size in range(players + 1):
            for chosen in combinations(range(players), size):
                others = those_left(players, pairs, chosen)
                self.assertEqual(left[told_as(chosen)], [len(others), *others])
                self.assertEqual(told[2 + told_as(chosen)], [0 if others else 1])

    def test_every_league_of_up_to_four(self):
        for players, games in ((1, 0), (2, 1), (3, 3), (4, 6)):
            for number in range(2 ** games):
                with self.subTest(players=players, number=number):
                    self.check(players, number)

    def test_larger_leagues(self):
        for players, games, step in ((5, 10, 7), (6, 15, 251), (7, 21, 20011)):
            for number in range(0, 2 ** games, step):
                with self.subTest(players=players, number=number):
                    self.check(players, number)

    def test_near_the_ring_of_seven(self):
        for place in range(21):
            with self.subTest(place=place):
                self.check(7, RING_OF_7 ^ 2 ** place)

    def test_first_of_every_league_of_five(self):
        for number in range(2 ** 10):
            with self.subTest(number=number):
                first = first_by_trying(5, league(5, number))
                told = say((START, 5), (GAMES, number), (FEWEST,), (FIRST,))
                self.assertEqual(told[2:], [[len(first)], [told_as(first), *first]])


if __name__ == "__main__":
    unittest.main()

"""What holds: a, b and c, seen from what is told alone."""

import unittest

from plain import (ANY, BEATS, COVERS, DEEP, FEWEST, FIRST, GAMES, GREEDY, LEFT, MANY, NEEDS, OVER, SQUARES, START,
                   STATE, every_small_league, say, some_larger_leagues, told_as)

LEAGUES = every_small_league() + some_larger_leagues()


def size_of(chosen):
    return bin(chosen).count("1")


class Doublings(unittest.TestCase):
    def test_never_more_than_doublings_allow(self):
        for players, number in LEAGUES:
            with self.subTest(players=players, number=number):
                fewest, greedy = say((START, players), (GAMES, number), (FEWEST,), (GREEDY,))[2:]
                self.assertLessEqual(2 ** fewest[0], players + 1)
                self.assertLessEqual(2 ** greedy[0], players + 1)
                self.assertEqual(len(greedy), 1 + greedy[0])

    def test_each_takes_half_of_those_left(self):
        for players, number in LEAGUES:
            with self.subTest(players=players, number=number):
                begin = ((START, players), (GAMES, number))
                taken = say(*begin, (GREEDY,))[2][1:]
                steps = [told_as(taken[:much]) for much in range(len(taken) + 1)]
                left = [told[0] for told in say(*begin, *[(LEFT, step) for step in steps])[2:]]
                self.assertEqual((left[0], left[-1]), (players, 0))
                for before, behind in zip(left, left[1:]):
                    self.assertLess(2 * behind, before)


class Depth(unittest.TestCase):
    def test_any_just_if_it_takes_more(self):
        for players, number in LEAGUES:
            with self.subTest(players=players, number=number):
                asked = [(ANY, size) for size in range(players + 1)]
                told = say((START, players), (GAMES, number), (FEWEST,), (DEEP,), *asked)[2:]
                fewest = told[0][0]
                self.assertEqual(told[1], [fewest - 1])
                self.assertEqual(told[2:], [[1 if fewest > size else 0] for size in range(players + 1)])

    def test_as_many_players_are_needed_as_told(self):
        for players, number in LEAGUES:
            with self.subTest(players=players, number=number):
                depth = say((START, players), (GAMES, number), (DEEP,))[2][0]
                needed = say((START, players), (NEEDS, depth))[1][0]
                self.assertGreaterEqual(players, needed)

    def test_by_squares_so_many_are_enough(self):
        for players, depth in ((3, 1), (7, 2)):
            with self.subTest(players=players):
                told = say((START, 1), (SQUARES, players), (STATE,), (DEEP,), (ANY, depth), (NEEDS, depth))
                self.assertEqual(told[2][0], players)
                self.assertEqual(told[3:], [[depth], [1], [players]])

    def test_who_is_over_a_set_is_left_by_it(self):
        for players, number in LEAGUES:
            with self.subTest(players=players, number=number):
                begin = ((START, players), (GAMES, number))
                sets = range(2 ** players)
                self.assertEqual(say(*begin, *[(OVER, chosen) for chosen in sets]),
                                 say(*begin, *[(LEFT, chosen) for chosen in sets]))


class Fewest(unittest.TestCase):
    def test_the_fewest_are_the_fewest_and_beat_all_others(self):
        for players, number in LEAGUES:
            with self.subTest(players=players, number=number):
                begin = ((START, players), (GAMES, number))
                fewest, first, many = say(*begin, (FEWEST,), (FIRST,), (MANY,))[2:]
                covers = say(*begin, *[(COVERS, chosen) for chosen in range(2 ** players)])[2:]
                enough = [chosen for chosen in range(2 ** players) if covers[chosen] == [1]]
                smallest = min(size_of(chosen) for chosen in enough)
                self.assertEqual(fewest, [smallest])
                self.assertEqual(first[0], min(chosen for chosen in enough if size_of(chosen) == smallest))
                self.assertEqual(many, [sum(1 for chosen in enough if size_of(chosen) == smallest)])
                self.assertEqual((told_as(first[1:]), first[1:]), (first[0], sorted(first[1:])))
                for other in range(players):
                    if other not in first[1:]:
                        asked = [(BEATS, one, other) for one in first[1:]]
                        self.assertIn([1], say(*begin, *asked)[2:])

    def test_one_by_one_they_are_enough_too(self):
        for players, number in LEAGUES:
            with self.subTest(players=players, number=number):
                begin = ((START, players), (GAMES, number))
                fewest, greedy = say(*begin, (FEWEST,), (GREEDY,))[2:]
                self.assertGreaterEqual(greedy[0], fewest[0])
                self.assertEqual(len(set(greedy[1:])), greedy[0])
                self.assertEqual(say(*begin, (COVERS, told_as(greedy[1:])))[2], [1])


if __name__ == "__main__":
    unittest.main()

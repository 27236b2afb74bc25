"""Point 1: start, games, turn, beats, wins, squares; and what is answered before a start."""

import unittest
from itertools import combinations

from plain import (ANY, BARE, BEATS, COVERS, DEEP, FEWEST, FIRST, GAMES, GREEDY, LEFT, MANY, NEEDS, OVER,
                   RING_OF_3, RING_OF_7, SQUARES, START, STATE, TOP, TURN, WINS, last, league, say)

OTHERS = ((GAMES, 0), (TURN, 0, 1), (BEATS, 0, 1), (WINS, 0), (COVERS, 1), (LEFT, 1), (FEWEST,), (FIRST,),
          (MANY,), (GREEDY,), (OVER, 1), (ANY, 1), (DEEP,), (SQUARES, 3), (NEEDS, 1), (BARE,), (STATE,))


def told_pairs(players, *calls):
    """The pairs (winner, loser) that beats tells behind these calls."""
    asked = [(one, other) for one in range(players) for other in range(players)]
    told = say(*calls, *[(BEATS, one, other) for one, other in asked])[len(calls):]
    return {pair for pair, answer in zip(asked, told) if answer == [1]}


class BeforeStart(unittest.TestCase):
    def test_each_other_call_is_refused(self):
        for call in OTHERS:
            with self.subTest(call=call):
                self.assertEqual(say(call), [[-11]])

    def test_all_of_them_one_behind_another(self):
        self.assertEqual(say(*OTHERS, (START, 2)), [[-11]] * len(OTHERS) + [[0]])

    def test_also_behind_a_start_that_is_refused(self):
        for refused in (0, 8, TOP):
            for call in OTHERS:
                with self.subTest(refused=refused, call=call):
                    self.assertEqual(say((START, refused), call), [[-22], [-11]])

    def test_numbers_out_of_range_are_refused_alike(self):
        for call in ((GAMES, TOP), (TURN, TOP, TOP), (BEATS, TOP, 0), (WINS, TOP), (COVERS, TOP), (LEFT, TOP),
                     (OVER, TOP), (ANY, TOP), (SQUARES, TOP), (SQUARES, 0), (NEEDS, 21), (NEEDS, TOP)):
            with self.subTest(call=call):
                self.assertEqual(say(call), [[-11]])

    def test_squares_is_no_start(self):
        self.assertEqual(say((SQUARES, 3), (WINS, 0)), [[-11], [-11]])
        self.assertEqual(say((START, 0), (SQUARES, 7), (STATE,), (START, 2), (STATE,)),
                         [[-22], [-11], [-11], [0], [2, 0]])

    def test_what_is_refused_before_a_start_leaves_nothing(self):
        self.assertEqual(say(*OTHERS, (START, 4), (STATE,))[-2:], [[0], [4, 0]])


class Start(unittest.TestCase):
    def test_one_to_seven(self):
        for players in range(1, 8):
            with self.subTest(players=players):
                self.assertEqual(say((START, players), (WINS, players - 1), (WINS, players)), [[0], [0], [-2]])

    def test_not_one_to_seven(self):
        for players in (0, 8, 9, 128, TOP):
            with self.subTest(players=players):
                self.assertEqual(say((START, players)), [[-22]])

    def test_the_lesser_number_won(self):
        for players in range(1, 8):
            with self.subTest(players=players):
                self.assertEqual(told_pairs(players, (START, players)), set(combinations(range(players), 2)))

    def test_a_refused_start_leaves_the_league(self):
        for refused in (0, 8, TOP):
            with self.subTest(refused=refused):
                calls = ((START, 4), (GAMES, 37), (START, refused))
                self.assertEqual(say(*calls), [[0], [6], [-22]])
                self.assertEqual(told_pairs(4, *calls), league(4, 37))
                self.assertEqual(last(*calls, (WINS, 4)), [-2])

    def test_a_second_start_makes_a_new_league(self):
        for players in (1, 3, 4, 7):
            with self.subTest(players=players):
                calls = ((START, 4), (GAMES, 63), (START, players))
                self.assertEqual(say(*calls), [[0], [6], [0]])
                self.assertEqual(told_pairs(players, *calls), set(combinations(range(players), 2)))
                self.assertEqual(last(*calls, (WINS, players)), [-2])


class Games(unittest.TestCase):
    def test_how_many_games(self):
        for players, games in zip(range(1, 8), (0, 1, 3, 6, 10, 15, 21)):
            for number in (0, 2 ** games // 2, 2 ** games - 1):
                with self.subTest(players=players, number=number):
                    self.assertEqual(last((START, players), (GAMES, number)), [games])

    def test_not_below_the_power(self):
        for players, games in zip(range(1, 8), (0, 1, 3, 6, 10, 15, 21)):
            for number in (2 ** games, 2 ** games + 1, 2 ** 31, TOP):
                with self.subTest(players=players, number=number):
                    self.assertEqual(last((START, players), (GAMES, number)), [-22])

    def test_refused_games_stay_as_they_were(self):
        calls = ((START, 4), (GAMES, 37), (GAMES, 64))
        self.assertEqual(say(*calls), [[0], [6], [-22]])
        self.assertEqual(told_pairs(4, *calls), league(4, 37))

    def test_one_player_has_no_games(self):
        self.assertEqual(say((START, 1), (GAMES, 0), (GAMES, 1)), [[0], [0], [-22]])

    def test_which_game_is_which(self):
        for players in range(2, 8):
            for place, (lesser, greater) in enumerate(combinations(range(players), 2)):
                with self.subTest(players=players, place=place):
                    pairs = set(combinations(range(players), 2)) - {(lesser, greater)} | {(greater, lesser)}
                    self.assertEqual(told_pairs(players, (START, players), (GAMES, 2 ** place)), pairs)

    def test_the_greatest_number(self):
        pairs = {(greater, lesser) for lesser, greater in combinations(range(7), 2)}
        self.assertEqual(told_pairs(7, (START, 7), (GAMES, 2 ** 21 - 1)), pairs)

    def test_a_number_takes_the_place_of_the_one_before(self):
        self.assertEqual(told_pairs(4, (START, 4), (GAMES, 63), (GAMES, 9)), league(4, 9))
        self.assertEqual(told_pairs(4, (START, 4), (GAMES, 63), (GAMES, 0)), league(4, 0))


class Turn(unittest.TestCase):
    def test_who_won_it_now(self):
        self.assertEqual(say((START, 3), (TURN, 0, 2), (TURN, 0, 2)), [[0], [2], [0]])

    def test_both_ways_round(self):
        self.assertEqual(say((START, 3), (TURN, 2, 0), (TURN, 0, 2), (TURN, 2, 0)), [[0], [2], [0], [2]])

    def test_each_pair_of_seven_and_no_other_game(self):
        for one in range(7):
            for other in range(7):
                if one == other:
                    continue
                with self.subTest(one=one, other=other):
                    lesser, greater = sorted((one, other))
                    before = set(combinations(range(7), 2))
                    calls = ((START, 7), (TURN, one, other))
                    self.assertEqual(last(*calls), [greater])
                    self.assertEqual(told_pairs(7, *calls), before - {(lesser, greater)} | {(greater, lesser)})
                    self.assertEqual(last(*calls, (TURN, one, other)), [lesser])
                    self.assertEqual(told_pairs(7, *calls, (TURN, one, other)), before)

    def test_no_such_player(self):
        for one, other in ((3, 0), (0, 3), (3, 3), (3, 4), (TOP, 0), (0, TOP), (TOP, TOP)):
            with self.subTest(one=one, other=other):
                self.assertEqual(last((START, 3), (TURN, one, other)), [-2])

    def test_one_and_the_same(self):
        for one in range(3):
            with self.subTest(one=one):
                self.assertEqual(last((START, 3), (TURN, one, one)), [-22])
        self.assertEqual(last((START, 1), (TURN, 0, 0)), [-22])

    def test_refused_turns_nothing(self):
        calls = ((START, 4), (GAMES, 37), (TURN, 1, 1), (TURN, 4, 0), (TURN, 0, 4))
        self.assertEqual(say(*calls), [[0], [6], [-22], [-2], [-2]])
        self.assertEqual(told_pairs(4, *calls), league(4, 37))

    def test_a_turn_is_seen_by_the_other_calls(self):
        asked = ((BEATS, 0, 2), (BEATS, 2, 0), (WINS, 0), (WINS, 2), (COVERS, 1), (LEFT, 1), (FEWEST,), (FIRST,))
        told = say((START, 3), *asked, (TURN, 0, 2), *asked)
        self.assertEqual(told[1:9], [[1], [0], [2], [0], [1], [0], [1], [1, 0]])
        self.assertEqual(told[9], [2])
        self.assertEqual(told[10:], [[0], [1], [1], [1], [0], [1, 2], [2], [3, 0, 1]])

    def test_turns_make_what_games_makes(self):
        self.assertEqual(told_pairs(4, (START, 4), (TURN, 0, 1), (TURN, 3, 0), (TURN, 2, 3)), league(4, 37))


class Beats(unittest.TestCase):
    def test_either_way_in_a_ring(self):
        asked = ((0, 1), (1, 0), (1, 2), (2, 1), (2, 0), (0, 2))
        told = say((START, 3), (GAMES, RING_OF_3), *[(BEATS, *pair) for pair in asked])[2:]
        self.assertEqual(told, [[1], [0], [1], [0], [1], [0]])

    def test_one_and_the_same(self):
        for number in (0, 7):
            for one in range(3):
                with self.subTest(number=number, one=one):
                    self.assertEqual(last((START, 3), (GAMES, number), (BEATS, one, one)), [0])

    def test_no_such_player(self):
        for one, other in ((3, 0), (0, 3), (3, 3), (7, 8), (TOP, 0), (0, TOP), (TOP, TOP)):
            with self.subTest(one=one, other=other):
                self.assertEqual(last((START, 3), (BEATS, one, other)), [-2])

    def test_every_league_of_up_to_four(self):
        for players, games in ((1, 0), (2, 1), (3, 3), (4, 6)):
            for number in range(2 ** games):
                with self.subTest(players=players, number=number):
                    told = told_pairs(players, (START, players), (GAMES, number))
                    self.assertEqual(told, league(players, number))


class Wins(unittest.TestCase):
    def test_a_league_in_order(self):
        self.assertEqual(say((START, 7), *[(WINS, one) for one in range(7)])[1:], [[6 - one] for one in range(7)])

    def test_the_order_turned_round(self):
        told = say((START, 4), (GAMES, 63), *[(WINS, one) for one in range(4)])
        self.assertEqual(told[2:], [[0], [1], [2], [3]])

    def test_no_such_player(self):
        for one in (3, 7, TOP):
            with self.subTest(one=one):
                self.assertEqual(last((START, 3), (WINS, one)), [-2])

    def test_one_player(self):
        self.assertEqual(say((START, 1), (WINS, 0), (WINS, 1)), [[0], [0], [-2]])

    def test_every_league_of_four(self):
        for number in range(64):
            with self.subTest(number=number):
                winners = [winner for winner, loser in league(4, number)]
                told = say((START, 4), (GAMES, number), *[(WINS, one) for one in range(4)])
                self.assertEqual(told[2:], [[winners.count(one)] for one in range(4)])


class Squares(unittest.TestCase):
    # Who beats whom by squares: the rests are 0 and 1 by 3; 0, 1, 2 and 4 by 7.
    BY_3 = {(0, 1), (1, 2), (2, 0)}
    BY_7 = {(one, (one + ahead) % 7) for one in range(7) for ahead in (1, 2, 4)}

    def test_the_games_number(self):
        self.assertEqual(say((START, 1), (SQUARES, 3), (SQUARES, 7)), [[0], [RING_OF_3], [RING_OF_7]])

    def test_who_beats_whom(self):
        self.assertEqual(told_pairs(3, (START, 3), (SQUARES, 3)), self.BY_3)
        self.assertEqual(told_pairs(7, (START, 7), (SQUARES, 7)), self.BY_7)

    def test_the_lesser_wins_just_at_the_rest_of_a_square(self):
        for players in (3, 7):
            rests = {one * one % players for one in range(100)}
            pairs = {(i, j) if j - i in rests else (j, i) for i, j in combinations(range(players), 2)}
            with self.subTest(players=players):
                self.assertEqual(told_pairs(players, (START, 1), (SQUARES, players)), pairs)

    def test_the_number_told_makes_the_same_league(self):
        for players in (3, 7):
            with self.subTest(players=players):
                number = last((START, 1), (SQUARES, players))[0]
                told = say((START, players), (GAMES, number), (STATE,))
                self.assertEqual(told[2], [players, number])
                self.assertEqual(last((START, 1), (SQUARES, players), (STATE,)), [players, number])

    def test_any_players_before(self):
        for players in range(1, 8):
            for before in ((), ((GAMES, 0),), ((GAMES, 2 ** (players * (players - 1) // 2) - 1),)):
                calls = ((START, players), *before)
                with self.subTest(players=players, before=before):
                    self.assertEqual(say(*calls, (SQUARES, 3), (STATE,))[-2:], [[2], [3, 2]])
                    self.assertEqual(say(*calls, (SQUARES, 7), (STATE,))[-2:], [[140596], [7, 140596]])
                    self.assertEqual(told_pairs(3, *calls, (SQUARES, 3)), self.BY_3)
                    self.assertEqual(told_pairs(7, *calls, (SQUARES, 7)), self.BY_7)

    def test_how_many_there_are_now(self):
        self.assertEqual(say((START, 7), (SQUARES, 3), (WINS, 2), (WINS, 3), (COVERS, 7), (COVERS, 8))[2:],
                         [[1], [-2], [1], [-22]])
        self.assertEqual(say((START, 2), (SQUARES, 7), (WINS, 6), (WINS, 7), (COVERS, 127), (COVERS, 128))[2:],
                         [[3], [-2], [1], [-22]])

    def test_the_other_calls_see_the_new_league(self):
        asked = ((GREEDY,), (FEWEST,), (FIRST,), (MANY,), (OVER, 3), (LEFT, 1), (ANY, 2), (DEEP,), (BARE,))
        self.assertEqual(say((START, 4), (SQUARES, 7), *asked)[2:],
                         [[3, 0, 1, 2], [3], [7, 0, 1, 2], [28], [1, 6], [3, 3, 5, 6], [1], [2], [0]])
        self.assertEqual(say((START, 4), (SQUARES, 7), (SQUARES, 3), *asked)[3:],
                         [[2, 0, 1], [2], [3, 0, 1], [3], [0], [1, 2], [0], [1], [0]])

    def test_neither_3_nor_7(self):
        for refused in (0, 1, 2, 4, 5, 6, 8, 9, 11, 19, 23, 2 ** 31, 2 ** 32 - 4, TOP):
            calls = ((START, 4), (GAMES, 37), (SQUARES, refused))
            with self.subTest(refused=refused):
                self.assertEqual(say(*calls, (STATE,)), [[0], [6], [-22], [4, 37]])
                self.assertEqual(told_pairs(4, *calls), league(4, 37))

    def test_games_turn_and_start_behind_it(self):
        told = say((START, 1), (SQUARES, 3), (GAMES, 7), (STATE,), (GAMES, 8), (SQUARES, 7), (TURN, 0, 3),
                   (STATE,), (START, 2), (STATE,))
        self.assertEqual(told, [[0], [2], [3], [3, 7], [-22], [140596], [0], [7, 140592], [0], [2, 0]])


if __name__ == "__main__":
    unittest.main()

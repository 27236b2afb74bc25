"""Everybody has played everybody: who won, and which few of them beat all others.

A set of players is kept as the number that tells it: player i counts 2 to the power of i.
"""

NO_SUCH_PLAYER = -2
NOT_STARTED = -11
OUT_OF_RANGE = -22

MOST_PLAYERS = 7
MOST_NEEDED_FOR = 20
BY_SQUARES = (3, 7)
START = 0

# How many whole numbers stand behind each call's number, for all 18 calls of the interface.
TAKES = (1, 1, 2, 2, 1, 1, 1, 0, 0, 0, 0, 1, 1, 0, 1, 1, 0, 0)


class League:
    """How many players there are, and the games' number; nobody means that it isn't started."""

    def __init__(self):
        self.players = 0
        self.number = 0


def how_many_games(players):
    return players * (players - 1) // 2


def game_weight(players, one, other):
    """What the game of these two counts in the games' number, if the greater of both won."""
    lesser = min(one, other)
    greater = max(one, other)
    # Each player below the lesser has a game with everybody above that player ahead of this one.
    ahead = lesser * (2 * players - lesser - 1) // 2
    return 1 << (ahead + greater - lesser - 1)


def did_beat(league, one, other):
    if one == other:
        return False
    greater_won = (league.number & game_weight(league.players, one, other)) != 0
    return greater_won == (one > other)


def beaten_by(league, one):
    return [other for other in range(league.players) if did_beat(league, one, other)]


def set_of(players):
    return sum([1 << one for one in players])


def players_of(chosen):
    return [one for one in range(chosen.bit_length()) if (chosen >> one) & 1]


def set_size(chosen):
    return len(players_of(chosen))


def beaten_sets(league):
    """For each player the set of all whom that player beat."""
    return [set_of(beaten_by(league, one)) for one in range(league.players)]


def reaches(league):
    """For each player the set of that player and all whom that player beat."""
    return [losers | (1 << one) for one, losers in enumerate(beaten_sets(league))]


def left_by(reached, chosen):
    """The set of those whom nobody of the chosen reaches; reached is what reaches tells."""
    remaining = (1 << len(reached)) - 1
    for one in players_of(chosen):
        remaining = remaining & ~reached[one]
    return remaining


def fewest_sets(league):
    """All sets of the fewest players that are enough, rising by their numbers."""
    # The reaches are the same for every set, so they are found once.
    reached = reaches(league)
    enough = [chosen for chosen in range(1 << league.players) if left_by(reached, chosen) == 0]
    fewest = min([set_size(chosen) for chosen in enough])
    return [chosen for chosen in enough if set_size(chosen) == fewest]


def who_takes_most(reached, remaining):
    taken = [set_size(reach & remaining) for reach in reached]
    # Of like ones the first is asked for, and index finds that one.
    return taken.index(max(taken))


def one_by_one(league):
    """The players as they're taken, each the one who takes most of those left, till nobody is."""
    reached = reaches(league)
    remaining = left_by(reached, 0)
    taken = []
    while remaining != 0:
        one = who_takes_most(reached, remaining)
        taken.append(one)
        remaining = remaining & ~reached[one]
    return taken


def those_over(beaten, chosen):
    """Who beat all of the chosen, rising; beaten is what beaten_sets tells."""
    # Nobody beat oneself, so nobody of the chosen is told.
    return [one for one, losers in enumerate(beaten) if (chosen & ~losers) == 0]


def each_has_one_over(league, size):
    """Whether each set of so many players has somebody over it, as it is if there's no such set."""
    beaten = beaten_sets(league)
    sets = [chosen for chosen in range(1 << league.players) if set_size(chosen) == size]
    return all([len(those_over(beaten, chosen)) > 0 for chosen in sets])


def greatest_depth(league):
    depth = 0
    # Nobody is over the set that's all, so this ends below how many players there are.
    while each_has_one_over(league, depth + 1):
        depth = depth + 1
    return depth


def number_by_squares(players):
    """The games' number if the lesser won just where both lie the rest of a square apart."""
    rests = [one * one % players for one in range(players)]
    number = 0
    for lesser in range(players):
        for greater in range(lesser + 1, players):
            if greater - lesser not in rests:
                number = number + game_weight(players, lesser, greater)
    return number


def is_missing(league, one):
    return one >= league.players


def has_missing(league, chosen):
    return chosen >= 1 << league.players


def counted(players):
    return [len(players)] + players


def answer_start(league, numbers):
    players = numbers[0]
    if players < 1 or players > MOST_PLAYERS:
        return [OUT_OF_RANGE]
    league.players = players
    league.number = 0
    return [0]


def answer_games(league, numbers):
    number = numbers[0]
    games = how_many_games(league.players)
    if number >= 1 << games:
        return [OUT_OF_RANGE]
    league.number = number
    return [games]


def answer_turn(league, numbers):
    one = numbers[0]
    other = numbers[1]
    if is_missing(league, one) or is_missing(league, other):
        return [NO_SUCH_PLAYER]
    if one == other:
        return [OUT_OF_RANGE]
    league.number = league.number ^ game_weight(league.players, one, other)
    return [one if did_beat(league, one, other) else other]


def answer_beats(league, numbers):
    one = numbers[0]
    other = numbers[1]
    if is_missing(league, one) or is_missing(league, other):
        return [NO_SUCH_PLAYER]
    return [1 if did_beat(league, one, other) else 0]


def answer_wins(league, numbers):
    one = numbers[0]
    if is_missing(league, one):
        return [NO_SUCH_PLAYER]
    return [len(beaten_by(league, one))]


def answer_covers(league, numbers):
    chosen = numbers[0]
    if has_missing(league, chosen):
        return [OUT_OF_RANGE]
    return [1 if left_by(reaches(league), chosen) == 0 else 0]


def answer_left(league, numbers):
    chosen = numbers[0]
    if has_missing(league, chosen):
        return [OUT_OF_RANGE]
    return counted(players_of(left_by(reaches(league), chosen)))


def answer_fewest(league, numbers):
    return [set_size(fewest_sets(league)[0])]


def answer_first(league, numbers):
    chosen = fewest_sets(league)[0]
    return [chosen] + players_of(chosen)


def answer_many(league, numbers):
    return [len(fewest_sets(league))]


def answer_greedy(league, numbers):
    return counted(one_by_one(league))


def answer_over(league, numbers):
    chosen = numbers[0]
    if has_missing(league, chosen):
        return [OUT_OF_RANGE]
    return counted(those_over(beaten_sets(league), chosen))


def answer_any(league, numbers):
    return [1 if each_has_one_over(league, numbers[0]) else 0]


def answer_deep(league, numbers):
    return [greatest_depth(league)]


def answer_squares(league, numbers):
    players = numbers[0]
    if players not in BY_SQUARES:
        return [OUT_OF_RANGE]
    league.players = players
    league.number = number_by_squares(players)
    return [league.number]


def answer_needs(league, numbers):
    size = numbers[0]
    if size > MOST_NEEDED_FOR:
        return [OUT_OF_RANGE]
    return [sum([1 << power for power in range(size + 1)])]


def answer_bare(league, numbers):
    return counted([one for one in range(league.players) if len(beaten_by(league, one)) == 0])


def answer_state(league, numbers):
    return [league.players, league.number]


# By the call's number; each takes the league and the call's whole numbers.
ANSWERERS = (
    answer_start,
    answer_games,
    answer_turn,
    answer_beats,
    answer_wins,
    answer_covers,
    answer_left,
    answer_fewest,
    answer_first,
    answer_many,
    answer_greedy,
    answer_over,
    answer_any,
    answer_deep,
    answer_squares,
    answer_needs,
    answer_bare,
    answer_state,
)


def answer_call(league, call, numbers):
    if call != START and league.players == 0:
        return [NOT_STARTED]
    answerer = ANSWERERS[call]
    return answerer(league, numbers)


def answers(calls):
    """What the calls answer, one behind another, each behind how many numbers it answers."""
    league = League()
    told = []
    place = 0
    while place < len(calls):
        call = calls[place]
        behind = place + 1 + TAKES[call]
        answer = answer_call(league, call, calls[place + 1:behind])
        told.append(len(answer))
        told.extend(answer)
        place = behind
    return told

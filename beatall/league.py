"""Everybody has played everybody: who won, and which few of them beat all others.

A set of players is kept as the number that tells it: player i counts 2 to the power of i.
"""

NO_SUCH_PLAYER = -2
NOT_STARTED = -11
OUT_OF_RANGE = -22

MOST_PLAYERS = 7
START = 0

# How many whole numbers stand behind each call's number, for all 18 calls of the interface.
TAKES = (1, 1, 2, 2, 1, 1, 1, 0, 0, 0, 0, 1, 1, 0, 1, 1, 0, 0)


class League:
    """How many players there are, and the games' number; nobody means that it isn't started."""

    def __init__(self):
        self.players = 0
        self.number = 0


def how_many_games(players):
    return players * (players - 1) // 2


def game_weight(players, one, other):
    """What the game of these two counts in the games' number, if the greater of both won."""
    lesser = min(one, other)
    greater = max(one, other)
    # Each player below the lesser has a game with everybody above that player ahead of this one.
    ahead = lesser * (2 * players - lesser - 1) // 2
    return 1 << (ahead + greater - lesser - 1)


def did_beat(league, one, other):
    if one == other:
        return False
    greater_won = (league.number & game_weight(league.players, one, other)) != 0
    return greater_won == (one > other)


def beaten_by(league, one):
    return [other for other in range(league.players) if did_beat(league, one, other)]


def set_of(players):
    return sum([1 << one for one in players])


def players_of(chosen):
    return [one for one in range(chosen.bit_length()) if (chosen >> one) & 1]


def set_size(chosen):
    return len(players_of(chosen))


def reaches(league):
    """For each player the set of that player and all whom that player beat."""
    return [set_of([one] + beaten_by(league, one)) for one in range(league.players)]


def left_by(reached, chosen):
    """The set of those whom nobody of the chosen reaches; reached is what reaches tells."""
    remaining = (1 << len(reached)) - 1
    for one in players_of(chosen):
        remaining = remaining & ~reached[one]
    return remaining


def first_set(league):
    """Of the smallest sets that are enough the one with the least number."""
    # The reaches are the same for every set, so they are found once.
    reached = reaches(league)
    enough = [chosen for chosen in range(1 << league.players) if left_by(reached, chosen) == 0]
    # The sets rise, and of like sizes min keeps the one that came first.
    return min(enough, key=set_size)


def is_missing(league, one):
    return one >= league.players


def has_missing(league, chosen):
    return chosen >= 1 << league.players


def answer_start(league, numbers):
    players = numbers[0]
    if players < 1 or players > MOST_PLAYERS:
        return [OUT_OF_RANGE]
    league.players = players
    league.number = 0
    return [0]


def answer_games(league, numbers):
    number = numbers[0]
    games = how_many_games(league.players)
    if number >= 1 << games:
        return [OUT_OF_RANGE]
    league.number = number
    return [games]


def answer_turn(league, numbers):
    one = numbers[0]
    other = numbers[1]
    if is_missing(league, one) or is_missing(league, other):
        return [NO_SUCH_PLAYER]
    if one == other:
        return [OUT_OF_RANGE]
    league.number = league.number ^ game_weight(league.players, one, other)
    return [one if did_beat(league, one, other) else other]


def answer_beats(league, numbers):
    one = numbers[0]
    other = numbers[1]
    if is_missing(league, one) or is_missing(league, other):
        return [NO_SUCH_PLAYER]
    return [1 if did_beat(league, one, other) else 0]


def answer_wins(league, numbers):
    one = numbers[0]
    if is_missing(league, one):
        return [NO_SUCH_PLAYER]
    return [len(beaten_by(league, one))]


def answer_covers(league, numbers):
    chosen = numbers[0]
    if has_missing(league, chosen):
        return [OUT_OF_RANGE]
    return [1 if left_by(reaches(league), chosen) == 0 else 0]


def answer_left(league, numbers):
    chosen = numbers[0]
    if has_missing(league, chosen):
        return [OUT_OF_RANGE]
    remaining = players_of(left_by(reaches(league), chosen))
    return [len(remaining)] + remaining


def answer_fewest(league, numbers):
    return [set_size(first_set(league))]


def answer_first(league, numbers):
    chosen = first_set(league)
    return [chosen] + players_of(chosen)


# By the call's number; each takes the league and the call's whole numbers.
ANSWERERS = (
    answer_start,
    answer_games,
    answer_turn,
    answer_beats,
    answer_wins,
    answer_covers,
    answer_left,
    answer_fewest,
    answer_first,
)


def answer_call(league, call, numbers):
    if call != START and league.players == 0:
        return [NOT_STARTED]
    answerer = ANSWERERS[call]
    return answerer(league, numbers)


def answers(calls):
    """What the calls answer, one behind another, each behind how many numbers it answers."""
    league = League()
    told = []
    place = 0
    while place < len(calls):
        call = calls[place]
        behind = place + 1 + TAKES[call]
        answer = answer_call(league, call, calls[place + 1:behind])
        told.append(len(answer))
        told.extend(answer)
        place = behind
    return told

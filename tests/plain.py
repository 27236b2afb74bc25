"""What the tests share: calls by name, and a league worked out by plain trying."""

from itertools import combinations

from beatall.league import answers

START, GAMES, TURN, BEATS, WINS, COVERS, LEFT, FEWEST, FIRST = range(9)
MANY, GREEDY, OVER, ANY, DEEP, SQUARES, NEEDS, BARE, STATE = range(9, 18)

TOP = 4294967295

# How many games so many players have.
GAMES_OF = {1: 0, 2: 1, 3: 3, 4: 6, 5: 10, 6: 15, 7: 21}

# 0 beats 1, 1 beats 2, 2 beats 0.
RING_OF_3 = 2
# The league of 7 in which i beats i + 1, i + 2 and i + 4, counted round.
RING_OF_7 = 140596


def say(*calls):
    """The answers to the calls, a list each."""
    line = [number for call in calls for number in call]
    if len(calls) > 200 or len(line) > 600:
        raise ValueError("no such line is ever handed in")
    given = answers(line)
    told = []
    place = 0
    while place < len(given):
        behind = place + 1 + given[place]
        told.append(given[place + 1:behind])
        place = behind
    if len(told) != len(calls) or place != len(given):
        raise AssertionError(f"{len(calls)} calls answered by {given}")
    return told


def last(*calls):
    return say(*calls)[-1]


def every_small_league():
    """Players and games' number of every league of up to four."""
    return [(players, number) for players in range(1, 5) for number in range(2 ** GAMES_OF[players])]


def some_larger_leagues():
    """A good number of those of five to seven: spread, and the ring of seven with all one game away from it."""
    steps = ((5, 7), (6, 251), (7, 20011))
    spread = [(players, number) for players, step in steps for number in range(0, 2 ** GAMES_OF[players], step)]
    return spread + [(7, RING_OF_7)] + [(7, RING_OF_7 ^ 2 ** place) for place in range(21)]


def league(players, number):
    """The pairs (winner, loser) of the league with this games' number."""
    pairs = set()
    for place, (lesser, greater) in enumerate(combinations(range(players), 2)):
        if number // 2 ** place % 2 == 1:
            pairs.add((greater, lesser))
        else:
            pairs.add((lesser, greater))
    return pairs


def those_left(players, pairs, chosen):
    return [one for one in range(players)
            if one not in chosen and not any((other, one) in pairs for other in chosen)]


def those_over(players, pairs, chosen):
    return [one for one in range(players)
            if one not in chosen and all((one, other) in pairs for other in chosen)]


def told_as(chosen):
    return sum(2 ** one for one in chosen)


def fewest_by_trying(players, pairs):
    """All sets of as few as are enough."""
    for size in range(players + 1):
        enough = [chosen for chosen in combinations(range(players), size)
                  if not those_left(players, pairs, chosen)]
        if enough:
            return enough
    raise AssertionError("all of them are always enough")


def first_by_trying(players, pairs):
    return min(fewest_by_trying(players, pairs), key=told_as)


def any_by_trying(players, pairs, size):
    return all(those_over(players, pairs, chosen) for chosen in combinations(range(players), size))


def greedy_by_trying(players, pairs):
    left = set(range(players))
    taken = []
    while left:
        best, most = None, set()
        for one in range(players):
            takes = {other for other in left if other == one or (one, other) in pairs}
            if len(takes) > len(most):
                best, most = one, takes
        taken.append(best)
        left -= most
    return taken

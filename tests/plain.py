"""What the tests share: calls by name, and a league worked out by plain trying."""

from itertools import combinations

from beatall.league import answers

START, GAMES, TURN, BEATS, WINS, COVERS, LEFT, FEWEST, FIRST = range(9)
MANY, GREEDY, OVER, ANY, DEEP, SQUARES, NEEDS, BARE, STATE = range(9, 18)

TOP = 4294967295

# 0 beats 1, 1 beats 2, 2 beats 0.
RING_OF_3 = 2
# The league of 7 in which i beats i + 1, i + 2 and i + 4, counted round.
RING_OF_7 = 140596


def say(*calls):
    """The answers to the calls, a list each."""
    line = [number for call in calls for number in call]
    if len(calls) > 200 or len(line) > 600:
        raise ValueError("no such line is ever handed in")
    given = answers(line)
    told = []
    place = 0
    while place < len(given):
        behind = place + 1 + given[place]
        told.append(given[place + 1:behind])
        place = behind
    if len(told) != len(calls) or place != len(given):
        raise AssertionError(f"{len(calls)} calls answered by {given}")
    return told


def last(*calls):
    return say(*calls)[-1]


def league(players, number):
    """The pairs (winner, loser) of the league with this games' number."""
    pairs = set()
    for place, (lesser, greater) in enumerate(combinations(range(players), 2)):
        if number // 2 ** place % 2 == 1:
            pairs.add((greater, lesser))
        else:
            pairs.add((lesser, greater))
    return pairs


def those_left(players, pairs, chosen):
    return [one for one in range(players)
            if one not in chosen and not any((other, one) in pairs for other in chosen)]


def told_as(chosen):
    return sum(2 ** one for one in chosen)


def first_by_trying(players, pairs):
    for size in range(players + 1):
        enough = [chosen for chosen in combinations(range(players), size)
                  if not those_left(players, pairs, chosen)]
        if enough:
            return min(enough, key=told_as)
    raise AssertionError("all of them are always enough")

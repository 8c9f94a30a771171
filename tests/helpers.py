"""Calls written by their names, and their answers one list each."""

from cuereferee.matches import answers

AGAIN = [3]
BACK = [4]
GIVE = [6]
NOW = [7]
FRAMES = [8]
MATCH = [9]


def begin(best=1, first=0):
    return [1, best, first]


def stroke(hit=0, potted=(), off=(), named=0, conduct=0, hidden=0, miss=0):
    told = [2, named, hit, conduct, hidden, miss, len(potted)] + list(potted)
    return told + [len(off)] + list(off)


def toss(who):
    return [5, who]


def pot(ball, named=0):
    """Hit a ball and pot it; a colour is named too."""
    return stroke(hit=ball, potted=[ball], named=ball if ball > 1 else named)


def joined(calls):
    return [number for call in calls for number in call]


def all_answers(*calls):
    """The answer of each call, in order."""
    given = answers(joined(calls))
    split = []
    at = 0
    while at < len(given):
        split.append(given[at + 1:at + 1 + given[at]])
        at += 1 + given[at]
    assert len(split) == len(calls)
    return split


def last_answer(*calls):
    return all_answers(*calls)[-1]


# Player 0 pots all reds at one stroke (15 points) and a black (7): the yellow is on, it's their turn.
TO_YELLOW = [stroke(hit=1, potted=[1] * 15), pot(7)]


def to_lowest(ball):
    """From a frame's beginning one player clears up to this ball; it's on, and the same one's turn."""
    return TO_YELLOW + [pot(colour) for colour in range(2, ball)]


# Nothing is made: the turn goes to the other player, nobody gets a point.
MISSED_RED = stroke(hit=1)
MISSED_BLACK = stroke(hit=7)

# Costs 7 and moves no ball; no miss is called.
FOUL_OF_7 = stroke(conduct=7)


# Whose turn it is loses the frame by misses; nobody makes a point but by three fouls of 4.
LOST = [stroke(miss=2), BACK] * 2 + [stroke(miss=2)]


def long_break(last):
    """From a frame's beginning: 97 and the last colour, a red is on and it's the same one's turn."""
    return [pot(1), pot(7)] * 12 + [pot(1), pot(last)]


def clearance():
    """From a frame's beginning one player wins it, 49 to 0."""
    return to_lowest(7) + [pot(7)]


def tie_by_foul():
    """From a frame's beginning: who plays first makes 42, fouls five times and then at the black, 42 to 42."""
    return [FOUL_OF_7, MISSED_RED] * 5 + to_lowest(7) + [FOUL_OF_7]


def tie_by_pot():
    """From a frame's beginning: who plays first fouls seven times and clears the table, 49 to 49."""
    return [FOUL_OF_7, MISSED_RED] * 7 + clearance()

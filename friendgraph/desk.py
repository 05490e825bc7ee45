"""The desk: calls come in as one list of whole numbers, answers go out as another."""

from friendgraph.graph import Graph
from friendgraph.passing import passes

BEGIN = 0
SIZE = 1
EDGE = 2
ROWS = 3
ROW = 4
COMMON = 5
STRONG = 6
PASS = 7
FAR = 8
WIDE = 9
GIRTH = 10
SWITCH = 11
TURN = 12

# By a call's number: how many whole numbers stand behind it. Rows (3) is missing, as its list tells its own length.
HANDED = {0: 0, 1: 1, 2: 3, 4: 1, 5: 2, 6: 0, 7: 4, 8: 2, 9: 0, 10: 0, 11: 1, 12: 0, 13: 0}


def handed_from(calls, at):
    """Where the numbers begin that the call at this place hands over."""
    if calls[at] == ROWS:
        return at + 2
    return at + 1


def how_many_handed(calls, at):
    """How many numbers the call at this place hands over."""
    if calls[at] == ROWS:
        return calls[at + 1]
    return HANDED[calls[at]]


def answer(graph, number, handed):
    """What the call of this number answers."""
    if number == BEGIN:
        return graph.begin()
    if number == SIZE:
        return graph.size(handed[0])
    if number == EDGE:
        return graph.edge(handed[0], handed[1], handed[2])
    if number == ROWS:
        return graph.rows(handed)
    if number == ROW:
        return graph.row(handed[0])
    if number == COMMON:
        return graph.common(handed[0], handed[1])
    if number == STRONG:
        return graph.strong()
    if number == PASS:
        return passes(handed[0], handed[1], handed[2], handed[3])
    if number == FAR:
        return graph.far(handed[0], handed[1])
    if number == WIDE:
        return graph.wide()
    if number == GIRTH:
        return graph.girth()
    if number == SWITCH:
        return graph.switch(handed[0])
    if number == TURN:
        return graph.turn()
    # how_many_handed fails at a number that no call has, so odds (13) is the one that is left
    return graph.odds()


def answers(calls):
    """For each of the calls, in order: how many numbers it answers, then these."""
    graph = Graph()
    told = []
    at = 0
    while at < len(calls):
        start = handed_from(calls, at)
        handed = [calls[k] for k in range(start, start + how_many_handed(calls, at))]
        found = answer(graph, calls[at], handed)
        told.append(len(found))
        told.extend(found)
        at = start + len(handed)
    return told

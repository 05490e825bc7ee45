"""The desk: calls come in as one list of whole numbers, answers go out as another."""

from friendgraph.graph import Graph

BEGIN = 0
SIZE = 1
EDGE = 2
ROWS = 3
ROW = 4
COMMON = 5

# By a call's number: how many whole numbers stand behind it. Rows (3) is missing, as its list tells its own length.
HANDED = {0: 0, 1: 1, 2: 3, 4: 1, 5: 2, 6: 0}


def handed_from(calls, at):
    """Where the numbers begin that the call at this place hands over."""
    if calls[at] == ROWS:
        return at + 2
    return at + 1


def how_many_handed(calls, at):
    """How many numbers the call at this place hands over."""
    if calls[at] == ROWS:
        return calls[at + 1]
    return HANDED[calls[at]]


def answer(graph, number, handed):
    """What the call of this number answers."""
    if number == BEGIN:
        return graph.begin()
    if number == SIZE:
        return graph.size(handed[0])
    if number == EDGE:
        return graph.edge(handed[0], handed[1], handed[2])
    if number == ROWS:
        return graph.rows(handed)
    if number == ROW:
        return graph.row(handed[0])
    if number == COMMON:
        return graph.common(handed[0], handed[1])
    # how_many_handed fails at a number that no call has, so strong (6) is the one that is left
    return graph.strong()


def answers(calls):
    """For each of the calls, in order: how many numbers it answers, then these."""
    graph = Graph()
    told = []
    at = 0
    while at < len(calls):
        start = handed_from(calls, at)
        handed = [calls[k] for k in range(start, start + how_many_handed(calls, at))]
        found = answer(graph, calls[at], handed)
        told.append(len(found))
        told.extend(found)
        at = start + len(handed)
    return told

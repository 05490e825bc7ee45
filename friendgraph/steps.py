"""Steps from neighbour to neighbour in a graph that is told by its rows: how far points are, and the shortest ring."""

from friendgraph.bits import bit_of, first_bits, points_of


def next_to(rows, points):
    """The row of all that are neighbours of one of these points, which are told by bits too."""
    found = 0
    for u in points_of(points):
        found = found | rows[u]
    return found


def layers_from(rows, u):
    """For 0, 1, 2 .. steps, as long as there are any: the row of the points that are so far from u."""
    layers = []
    seen = 0
    layer = 1 << u
    while layer != 0:
        layers.append(layer)
        seen = seen | layer
        layer = next_to(rows, layer) & ~seen
    return layers


def steps_between(rows, u, v):
    """The fewest steps from u to v; None if none lead there."""
    layers = layers_from(rows, u)
    for steps in range(len(layers)):
        if bit_of(layers[steps], v) == 1:
            return steps
    return None


def steps_to_farthest(rows, u):
    """The fewest steps from u to the point that is farthest from it; None if there is one to which none lead."""
    layers = layers_from(rows, u)
    # no point is in two layers, so the sum has each point's bit just if every point is in one
    if sum(layers) != first_bits(len(rows)):
        return None
    return len(layers) - 1


def most_steps(rows):
    """How far the farthest two points are; None if no steps lead from some one to some other."""
    most = 0
    for u in range(len(rows)):
        steps = steps_to_farthest(rows, u)
        if steps is None:
            return None
        most = max(most, steps)
    return most


def some_have_two(rows, points, others):
    """Whether one of these points has two neighbours or more among the others."""
    for u in points_of(points):
        shared = rows[u] & others
        # taking 1 away turns the lowest set bit and all below it about: any other set bit stays
        if shared & (shared - 1) != 0:
            return True
    return False


def ring_around(rows, u):
    """How many steps the shortest way round from u back to u has; 0 if there is none.

    A way round is two different ways of fewest steps from u that end at one point or at two neighbours. From a point of
    the graph's shortest ring it is this ring. From others the two may have their first steps in common; the ring that
    they hold is then shorter than the way round, so nowhere is too little told.
    """
    before = 0
    layer = 1 << u
    steps = 0
    while layer != 0:
        if some_have_two(rows, layer, before):
            return 2 * steps
        beside = next_to(rows, layer)
        if beside & layer != 0:
            return 2 * steps + 1
        # neighbours of points that are so far are a step nearer, as far, or a step farther: the last are left
        farther = beside & ~before
        before = layer
        layer = farther
        steps = steps + 1
    return 0


def shortest_ring(rows):
    """How many points the shortest ring has; 0 if there is none."""
    found = [ring_around(rows, u) for u in range(len(rows))]
    return min([ring for ring in found if ring > 0], default=0)

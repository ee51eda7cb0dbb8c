"""A second, plain way to what the program answers, and inputs for the tests."""

import itertools

PATH_3 = [(0, 1), (1, 2)]
PATH_4 = [(0, 1), (1, 2), (2, 3)]
PATH_6 = [(0, 1), (1, 2), (2, 3), (3, 4), (4, 5)]
CROOKED_PATH_5 = [(3, 0), (0, 4), (4, 1), (1, 2)]
RING_4 = [(0, 1), (1, 2), (2, 3), (3, 0)]
RING_5 = [(0, 1), (1, 2), (2, 3), (3, 4), (4, 0)]
RING_6 = [(0, 1), (1, 2), (2, 3), (3, 4), (4, 5), (5, 0)]
STAR_5 = [(2, 0), (2, 1), (2, 3), (2, 4)]
STAR_6 = [(0, 1), (0, 2), (0, 3), (0, 4), (0, 5)]
FORK_6 = [(5, 0), (0, 2), (2, 4), (0, 1), (2, 3)]
KITE_5 = [(0, 1), (0, 2), (1, 2), (1, 3), (2, 3), (3, 4)]
PRISM_6 = [(0, 1), (1, 2), (2, 0), (3, 4), (4, 5), (5, 3), (0, 3), (1, 4), (2, 5)]
TWO_SIDES_6 = [(i, j) for i in (0, 1, 2) for j in (3, 4, 5)]

TREES = [(1, []), (2, [(0, 1)]), (3, PATH_3), (4, PATH_4), (5, CROOKED_PATH_5), (5, STAR_5),
         (6, PATH_6), (6, STAR_6), (6, FORK_6)]
OTHERS = [(4, RING_4), (5, RING_5), (5, KITE_5), (6, RING_6), (6, PRISM_6), (6, TWO_SIDES_6)]


def all_joined(n):
    return list(itertools.combinations(range(n), 2))


def graph_of(n, edges):
    g = [0] * n
    for i, j in edges:
        g[i] |= 1 << j
        g[j] |= 1 << i
    return g


def ways_to_lie(n, total):
    """All ways in which just so many coins can lie at n places."""
    if n == 1:
        return [[total]]
    return [[first] + rest for first in range(total + 1) for rest in ways_to_lie(n - 1, total - first)]


def spread(things, most):
    """At most so many of the things, evenly from the first to the last."""
    if len(things) <= most:
        return things
    return [things[k * (len(things) - 1) // (most - 1)] for k in range(most)]


def plain_led_to(edges, coins):
    """All that the coins lead to, by trying each move, and from there each move again."""
    seen = set()

    def visit(lying):
        if lying in seen:
            return
        seen.add(lying)
        for one, other in edges:
            for source, target in ((one, other), (other, one)):
                if lying[source] > 1:
                    visit(tuple(k - 2 * (p == source) + (p == target) for p, k in enumerate(lying)))

    visit(tuple(coins))
    return seen


def tree_most(edges, r, coins, came_from=None):
    """In a tree each place can send half of what it gathers on towards r, and nothing else helps."""
    total = coins[r]
    for edge in edges:
        if r in edge:
            other = edge[0] if edge[1] == r else edge[1]
            if other != came_from:
                total += tree_most(edges, other, coins, r) // 2
    return total


def plain_is_graph(n, g):
    """Whether g is a graph, by a table of who comes to whom."""
    pairs = {(i, j) for i in range(n) for j in range(8) if format(g[i], "08b")[7 - j] == "1"}
    if any(j >= n or i == j or (j, i) not in pairs for i, j in pairs):
        return False
    comes = [[i == j or (i, j) in pairs for j in range(n)] for i in range(n)]
    for k, i, j in itertools.product(range(n), repeat=3):
        comes[i][j] = comes[i][j] or (comes[i][k] and comes[k][j])
    return all(all(row) for row in comes)

"""A second, plain way to what the program answers, and inputs for the tests."""

import functools
import itertools

PATH_3 = [(0, 1), (1, 2)]
PATH_4 = [(0, 1), (1, 2), (2, 3)]
PATH_6 = [(0, 1), (1, 2), (2, 3), (3, 4), (4, 5)]
CROOKED_PATH_5 = [(3, 0), (0, 4), (4, 1), (1, 2)]
RING_4 = [(0, 1), (1, 2), (2, 3), (3, 0)]
RING_5 = [(0, 1), (1, 2), (2, 3), (3, 4), (4, 0)]
RING_6 = [(0, 1), (1, 2), (2, 3), (3, 4), (4, 5), (5, 0)]
STAR_5 = [(2, 0), (2, 1), (2, 3), (2, 4)]
STAR_6 = [(0, 1), (0, 2), (0, 3), (0, 4), (0, 5)]
BROOM_6 = [(4, 1), (1, 3), (3, 0), (1, 2), (1, 5)]
FORK_6 = [(5, 0), (0, 2), (2, 4), (0, 1), (2, 3)]
BULL_5 = [(0, 3), (3, 1), (3, 4), (1, 4), (1, 2)]
HOUSE_5 = [(0, 1), (1, 2), (2, 3), (3, 0), (0, 4), (1, 4)]
KITE_5 = [(0, 1), (0, 2), (1, 2), (1, 3), (2, 3), (3, 4)]
LADDER_6 = [(0, 1), (1, 2), (3, 4), (4, 5), (0, 3), (1, 4), (2, 5)]
NET_6 = [(1, 3), (3, 5), (5, 1), (1, 0), (3, 2), (5, 4)]
PRISM_6 = [(0, 1), (1, 2), (2, 0), (3, 4), (4, 5), (5, 3), (0, 3), (1, 4), (2, 5)]
TWO_SIDES_6 = [(i, j) for i in (0, 1, 2) for j in (3, 4, 5)]

TREES = [(1, []), (2, [(0, 1)]), (3, PATH_3), (4, PATH_4), (5, CROOKED_PATH_5), (5, STAR_5),
         (6, PATH_6), (6, STAR_6), (6, FORK_6)]
OTHERS = [(4, RING_4), (5, RING_5), (5, KITE_5), (6, RING_6), (6, PRISM_6), (6, TWO_SIDES_6)]


def all_joined(n):
    return list(itertools.combinations(range(n), 2))


# What pc_number, pc_short and pc_well are asked of: up to 5 places, and 6 with nobody more than 3 neighbours away.
ASKED_NEAR = (
    [(1, []), (2, [(0, 1)]), (3, PATH_3), (4, PATH_4), (4, RING_4), (5, CROOKED_PATH_5), (5, STAR_5), (5, RING_5),
     (5, KITE_5), (5, BULL_5), (5, HOUSE_5), (6, STAR_6), (6, BROOM_6), (6, FORK_6), (6, RING_6), (6, LADDER_6),
     (6, NET_6), (6, PRISM_6), (6, TWO_SIDES_6)] + [(n, all_joined(n)) for n in (3, 4, 5, 6)])


def path(n):
    return [(i, i + 1) for i in range(n - 1)]


def ring(n):
    return path(n) + [(n - 1, 0)]


def star(n):
    return [(0, i) for i in range(1, n)]


def graph_of(n, edges):
    g = [0] * n
    for i, j in edges:
        g[i] |= 1 << j
        g[j] |= 1 << i
    return g


def all_graphs(n):
    """The edges of each graph of n places."""
    choices = itertools.product((False, True), repeat=len(all_joined(n)))
    chosen = [[pair for pair, taken in zip(all_joined(n), choice) if taken] for choice in choices]
    return [edges for edges in chosen if plain_is_graph(n, graph_of(n, edges))]


def ways_to_lie(n, total):
    """All ways in which just so many coins can lie at n places."""
    if n == 1:
        return [[total]]
    return [[first] + rest for first in range(total + 1) for rest in ways_to_lie(n - 1, total - first)]


def spread(things, most):
    """At most so many of the things, evenly from the first to the last."""
    if len(things) <= most:
        return things
    return [things[k * (len(things) - 1) // (most - 1)] for k in range(most)]


def plain_moves(edges, lying):
    """All that comes of the coins by one move."""
    for one, other in edges:
        for source, target in ((one, other), (other, one)):
            if lying[source] > 1:
                yield tuple(k - 2 * (p == source) + (p == target) for p, k in enumerate(lying))


def plain_led_to(edges, coins):
    """All that the coins lead to, by trying each move, and from there each move again."""
    seen = set()

    def visit(lying):
        if lying not in seen:
            seen.add(lying)
            for moved in plain_moves(edges, lying):
                visit(moved)

    visit(tuple(coins))
    return seen


def place_finder(edges):
    """A function that tells of coins the places to which they bring one."""

    @functools.cache
    def places_of(lying):
        found = {place for place, k in enumerate(lying) if k > 0}
        return found.union(*[places_of(moved) for moved in plain_moves(edges, lying)])

    return places_of


def plain_number(n, edges):
    """The first number of coins that come to each place, in whatever way they lie."""
    places_of = place_finder(edges)
    return next(k for k in itertools.count()
                if all(len(places_of(tuple(coins))) == n for coins in ways_to_lie(n, k)))


def plain_shorts(n, edges, total):
    """All ways, in their order, in which so many coins lie but don't come to each place."""
    places_of = place_finder(edges)
    ways = sorted(ways_to_lie(n, total))
    return [coins for coins in ways if len(places_of(tuple(coins))) < n]


def plain_well(n, edges):
    """The first number of coins that come to each place in some way to lie."""
    places_of = place_finder(edges)
    return next(k for k in itertools.count()
                if any(len(places_of(tuple(coins))) == n for coins in ways_to_lie(n, k)))


def cover_finder(edges):
    """A function that tells of coins whether they lead to some with one at every place."""

    @functools.cache
    def covers(lying):
        return min(lying) > 0 or any(covers(moved) for moved in plain_moves(edges, lying))

    return covers


def plain_cover(n, edges):
    """The first number of coins that come to every place at once, in whatever way they lie."""
    covers = cover_finder(edges)
    return next(k for k in itertools.count() if all(covers(tuple(coins)) for coins in ways_to_lie(n, k)))


def tree_most(edges, r, coins, came_from=None):
    """In a tree each place can send half of what it gathers on towards r, and nothing else helps."""
    total = coins[r]
    for edge in edges:
        if r in edge:
            other = edge[0] if edge[1] == r else edge[1]
            if other != came_from:
                total += tree_most(edges, other, coins, r) // 2
    return total


def tree_number(n, edges):
    """In a tree: from some r the tree is cut into longest paths, and each of a edges takes 2 ** a - 1 coins in vain."""
    def cut(place, came_from):
        """The longest path down from the place, and the coins on those paths below that ended."""
        below = sorted(cut(other, place) for edge in edges if place in edge for other in edge
                       if other not in (place, came_from))
        longest = 1 + below[-1][0] if below else 0
        ended = sum(2 ** (1 + length) - 1 for length, coins in below[:-1])
        return longest, ended + sum(coins for length, coins in below)

    def in_vain(r):
        longest, ended = cut(r, None)
        return 2 ** longest - 1 + ended

    return max(in_vain(r) for r in range(n)) + 1


def tree_cover(edges, most=70):
    """In a tree: one more than the most coins, up to so many at a place, that leave some place without one.

    Seen from place 0, each place sends half of what it has too many towards it, or takes twice what it lacks.
    """
    def most_by_surplus(place, came_from):
        found = {k - 1: k for k in range(most + 1)}
        for other in [sum(edge) - place for edge in edges if place in edge]:
            if other != came_from:
                wider = {}
                for surplus, coins in most_by_surplus(other, place).items():
                    change = surplus // 2 if surplus > 0 else 2 * surplus
                    for before, coins_before in found.items():
                        together = before + change
                        wider[together] = max(wider.get(together, 0), coins + coins_before)
                found = wider
        return found

    return 1 + max(coins for surplus, coins in most_by_surplus(0, None).items() if surplus < 0)


def plain_steps(n, edges):
    """A table of how many neighbours each place is away from each."""
    away = [[0 if i == j else n for j in range(n)] for i in range(n)]
    for i, j in edges:
        away[i][j] = away[j][i] = 1
    for k, i, j in itertools.product(range(n), repeat=3):
        away[i][j] = min(away[i][j], away[i][k] + away[k][j])
    return away


def plain_away(n, edges):
    """How many neighbours the farthest places are away from one another."""
    return max(max(row) for row in plain_steps(n, edges))


def plain_is_graph(n, g):
    """Whether g is a graph, by a table of who comes to whom."""
    pairs = {(i, j) for i in range(n) for j in range(8) if format(g[i], "08b")[7 - j] == "1"}
    if any(j >= n or i == j or (j, i) not in pairs for i, j in pairs):
        return False
    comes = [[i == j or (i, j) in pairs for j in range(n)] for i in range(n)]
    for k, i, j in itertools.product(range(n), repeat=3):
        comes[i][j] = comes[i][j] or (comes[i][k] and comes[k][j])
    return all(all(row) for row in comes)

"""Coins at the places of a graph, and what comes of them by moves."""

MOST_PLACES = 6
MOST_COINS_AT_A_PLACE = 100
OUT_OF_RANGE = -2
NOT_A_GRAPH_OR_TOO_MANY = -3


def are_neighbours(g, i, j):
    """Whether place i has place j for a neighbour."""
    return (g[i] >> j) & 1 == 1


def has_only_places(n, g):
    """Whether each neighbour is one of the n places."""
    return all([bits >> n == 0 for bits in g])


def goes_both_ways(n, g):
    """Whether whoever is one's neighbour has it for a neighbour."""
    for i in range(n):
        for j in range(i):
            if are_neighbours(g, i, j) != are_neighbours(g, j, i):
                return False
    return True


def has_own_neighbour(n, g):
    """Whether some place is its own neighbour."""
    return any([are_neighbours(g, i, i) for i in range(n)])


def is_joined(n, g):
    """Whether one comes from place 0, and so from each place, to each."""
    come_to = 1
    # No way that visits a place once is longer than n - 1, so n rounds are enough.
    for round_number in range(n):
        for i in range(n):
            if (come_to >> i) & 1 == 1:
                come_to = come_to | g[i]
    return come_to == (1 << n) - 1


def is_graph(n, g):
    """Whether g tells the neighbours of n places as the document asks."""
    # The joining is asked last: it may start at place 0 alone only where neighbours go both ways.
    return has_only_places(n, g) and not has_own_neighbour(n, g) and goes_both_ways(n, g) and is_joined(n, g)


def has_too_many(c):
    """Whether some place has more coins than are allowed."""
    return any([coins > MOST_COINS_AT_A_PLACE for coins in c])


def ways_to_move(n, g):
    """All pairs (from, to) of neighbours, since a move goes along such a pair."""
    pairs = []
    for i in range(n):
        for j in range(n):
            if are_neighbours(g, i, j):
                pairs.append((i, j))
    return pairs


def after_move(lying, pair):
    """The coins after one move along the pair."""
    moved = list(lying)
    moved[pair[0]] -= 2
    moved[pair[1]] += 1
    return tuple(moved)


def after_one_move(pairs, row):
    """All coins, each once, that come by just one move from some of the row."""
    found = {}
    for lying in row:
        for pair in pairs:
            if lying[pair[0]] >= 2:
                found[after_move(lying, pair)] = True
    return list(found)


def all_led_to(n, g, c):
    """All coins, each once, that the coins c lead to."""
    pairs = ways_to_move(n, g)
    found = []
    # Each move costs a coin: two rows never share coins, and the rows come to an end.
    row = [tuple(c)]
    while len(row) > 0:
        found.extend(row)
        row = after_one_move(pairs, row)
    return found


def pc_most(n, r, g, c):
    """The most coins at r of all that the coins c lead to."""
    if n < 1 or n > MOST_PLACES or r < 0 or r >= n:
        return [OUT_OF_RANGE]
    if not is_graph(n, g) or has_too_many(c):
        return [NOT_A_GRAPH_OR_TOO_MANY]
    return [max([lying[r] for lying in all_led_to(n, g, c)])]

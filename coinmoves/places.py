"""Coins at the places of a graph, and what comes of them by moves."""

MOST_PLACES = 6
MOST_COINS_AT_A_PLACE = 100
OUT_OF_RANGE = -2
NOT_A_GRAPH_OR_TOO_MANY = -3


def are_neighbours(g, i, j):
    """Whether place i has place j for a neighbour."""
    return (g[i] >> j) & 1 == 1


def has_only_places(n, g):
    """Whether each neighbour is one of the n places."""
    return all([bits >> n == 0 for bits in g])


def goes_both_ways(n, g):
    """Whether whoever is one's neighbour has it for a neighbour."""
    for i in range(n):
        for j in range(i):
            if are_neighbours(g, i, j) != are_neighbours(g, j, i):
                return False
    return True


def has_own_neighbour(n, g):
    """Whether some place is its own neighbour."""
    return any([are_neighbours(g, i, i) for i in range(n)])


def with_neighbours(n, g, come_to):
    """The places of come_to, as bits, and all their neighbours."""
    wider = come_to
    for i in range(n):
        if (come_to >> i) & 1 == 1:
            wider = wider | g[i]
    return wider


def is_joined(n, g):
    """Whether one comes from place 0, and so from each place, to each."""
    come_to = 1
    # No way that visits a place once is longer than n - 1, so n rounds are enough.
    for round_number in range(n):
        come_to = with_neighbours(n, g, come_to)
    return come_to == (1 << n) - 1


def is_graph(n, g):
    """Whether g tells the neighbours of n places as the document asks."""
    # The joining is asked last: it may start at place 0 alone only where neighbours go both ways.
    return has_only_places(n, g) and not has_own_neighbour(n, g) and goes_both_ways(n, g) and is_joined(n, g)


def has_too_many(c):
    """Whether some place has more coins than are allowed."""
    return any([coins > MOST_COINS_AT_A_PLACE for coins in c])


def ways_to_move(n, g):
    """All pairs (from, to) of neighbours, since a move goes along such a pair."""
    pairs = []
    for i in range(n):
        for j in range(n):
            if are_neighbours(g, i, j):
                pairs.append((i, j))
    return pairs


def after_move(lying, pair):
    """The coins after one move along the pair."""
    moved = list(lying)
    moved[pair[0]] -= 2
    moved[pair[1]] += 1
    return tuple(moved)


def after_one_move(pairs, row):
    """All coins, each once, that come by just one move from some of the row."""
    found = {}
    for lying in row:
        for pair in pairs:
            if lying[pair[0]] >= 2:
                found[after_move(lying, pair)] = True
    return list(found)


def all_led_to(n, g, c):
    """All coins, each once, that the coins c lead to."""
    pairs = ways_to_move(n, g)
    found = []
    # Each move costs a coin: two rows never share coins, and the rows come to an end.
    row = [tuple(c)]
    while len(row) > 0:
        found.extend(row)
        row = after_one_move(pairs, row)
    return found


def lead_to_one_everywhere(n, g, c):
    """Whether the coins c lead to some with one at least at every place."""
    pairs = ways_to_move(n, g)
    row = [tuple(c)]
    # The coins of a row are as many in each way: fewer than there are places are not enough, and won't be more.
    while len(row) > 0 and sum(row[0]) >= n:
        if any([min(lying) > 0 for lying in row]):
            return True
        row = after_one_move(pairs, row)
    return False


def with_one_more(lying, place):
    """The coins with one more at the place."""
    more = list(lying)
    more[place] += 1
    return tuple(more)


def is_short(pairs, r, row, lying):
    """Whether the coins lead to none with one at r, where row holds all such ways of one coin fewer."""
    if lying[r] > 0:
        return False
    for pair in pairs:
        if lying[pair[0]] >= 2 and after_move(lying, pair) not in row:
            return False
    return True


def next_short_row(pairs, r, row):
    """All ways of one coin more than in row that lead to none with one at r, where row holds all such of its own."""
    found = {}
    # Such coins without one of them don't come further: each such way is one of the row and a coin more.
    for lying in row:
        for place in range(len(lying)):
            more = with_one_more(lying, place)
            if more not in found and is_short(pairs, r, row, more):
                found[more] = True
    return found


def most_short_of(n, g, r):
    """All ways with the most coins that lead to none with one at r."""
    pairs = ways_to_move(n, g)
    row = {tuple([0] * n): True}
    following = next_short_row(pairs, r, row)
    # One comes from each place to r, so with coins enough one comes there, and the rows come to an end.
    while len(following) > 0:
        row = following
        following = next_short_row(pairs, r, row)
    return list(row)


def most_short(n, g):
    """All ways with the most coins for which there is a place so that they lead to none with one there."""
    found = []
    for r in range(n):
        found.extend(most_short_of(n, g, r))
    most = max([sum(lying) for lying in found])
    return [lying for lying in found if sum(lying) == most]


def all_with_one_more(row):
    """All ways, each once, that come of one of the row by a coin more at some place."""
    found = {}
    for lying in row:
        for place in range(len(lying)):
            found[with_one_more(lying, place)] = True
    return list(found)


def come_to_each(n, g, c):
    """Whether the coins c lead, for each place by itself, to some with one there at least."""
    led_to = all_led_to(n, g, c)
    return all([max([lying[r] for lying in led_to]) > 0 for r in range(n)])


def steps_from(n, g, start):
    """Of each place, how many steps from neighbour to neighbour it is away from the start."""
    steps = [0] * n
    come_to = 1 << start
    # Each round in which a place is not yet come to, it is one step further away.
    for round_number in range(n):
        steps = [steps[i] + 1 - ((come_to >> i) & 1) for i in range(n)]
        come_to = with_neighbours(n, g, come_to)
    return steps


def enough_from(n, g, start):
    """The fewest coins, all at the start, that lead to some with one at every place."""
    # Each step on its way doubles what a coin costs at the start.
    return sum([1 << steps for steps in steps_from(n, g, start)])


def refusal(n, g, c):
    """The number of the refusal, or 0 if there is none."""
    if n < 1 or n > MOST_PLACES:
        return OUT_OF_RANGE
    if not is_graph(n, g) or has_too_many(c):
        return NOT_A_GRAPH_OR_TOO_MANY
    return 0


def pc_most(n, r, g, c):
    """The most coins at r of all that the coins c lead to."""
    if r < 0 or r >= n:
        return [OUT_OF_RANGE]
    refused = refusal(n, g, c)
    if refused != 0:
        return [refused]
    return [max([lying[r] for lying in all_led_to(n, g, c)])]


def pc_number(n, g):
    """The least k so that k coins, however they lie, lead for each place to some with one there at least."""
    refused = refusal(n, g, [])
    if refused != 0:
        return [refused]
    # One more than can lie short of a place: fewer can lie so too, and more can't.
    return [sum(most_short(n, g)[0]) + 1]


def pc_short(n, g):
    """0, then the first of all ways in which one coin fewer than pc_number's can lie short of some place."""
    refused = refusal(n, g, [])
    if refused != 0:
        return [refused]
    # Tuples come in the order that is asked: by the first place where they differ, the fewer first.
    return [0] + list(min(most_short(n, g)))


def pc_cover(n, g):
    """The least k so that k coins, however they lie, lead to some with one at least at every place."""
    refused = refusal(n, g, [])
    if refused != 0:
        return [refused]
    # Sjostrand's theorem: where coins all at one place are enough, whatever the place, so are as many in any way.
    return [max([enough_from(n, g, start) for start in range(n)])]


def pc_covers(n, g, c):
    """1 if the coins c lead to some with one at least at every place, else 0."""
    refused = refusal(n, g, c)
    if refused != 0:
        return [refused]
    return [1 if lead_to_one_everywhere(n, g, c) else 0]


def pc_well(n, g):
    """The least k so that k coins can be laid that lead, for each place, to some with one there at least."""
    refused = refusal(n, g, [])
    if refused != 0:
        return [refused]
    row = [tuple([0] * n)]
    # One at each place is a way that does it, so the rows come to an end.
    while not any([come_to_each(n, g, lying) for lying in row]):
        row = all_with_one_more(row)
    return [sum(row[0])]

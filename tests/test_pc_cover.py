"""Point 4, pc_cover."""

import itertools
import unittest

from coinmoves.places import pc_cover
from plain_way import (
    BROOM_6, FORK_6, KITE_5, LADDER_6, NET_6, PATH_6, PRISM_6, RING_6, STAR_6, TREES, TWO_SIDES_6,
    all_graphs, all_joined, cover_finder, graph_of, path, plain_cover, plain_steps, ring, spread, star, tree_cover)


class OrdinaryInputs(unittest.TestCase):
    def hold_against_plain_way(self, n, edges):
        with self.subTest(n=n, edges=edges):
            self.assertEqual(pc_cover(n, graph_of(n, edges)), [plain_cover(n, edges)])

    def test_every_graph_up_to_four_places(self):
        for n in (1, 2, 3, 4):
            for edges in all_graphs(n):
                self.hold_against_plain_way(n, edges)

    def test_graphs_of_five_places(self):
        for edges in spread(all_graphs(5), 50) + [path(5), star(5), ring(5), KITE_5]:
            self.hold_against_plain_way(5, edges)

    def test_graphs_of_six_places(self):
        for edges in (STAR_6, RING_6, LADDER_6, NET_6, PRISM_6, TWO_SIDES_6, all_joined(6)):
            self.hold_against_plain_way(6, edges)

    def test_trees_by_what_each_place_has_too_many(self):
        trees = [(n, edges) for n in (4, 5) for edges in all_graphs(n) if len(edges) == n - 1]
        trees_of_six = [(6, edges) for edges in all_graphs(6) if len(edges) == 5]
        for n, edges in TREES + [(6, BROOM_6)] + spread(trees, 25) + spread(trees_of_six, 25):
            with self.subTest(n=n, edges=edges):
                self.assertEqual(pc_cover(n, graph_of(n, edges)), [tree_cover(edges)])

    def test_many_graphs_of_six_places_by_their_worst_place(self):
        for edges in spread(all_graphs(6), 1000):
            # All coins at one place: each place takes 2 for each neighbour that it is away.
            want = max(sum(2 ** away for away in row) for row in plain_steps(6, edges))
            self.assertEqual(pc_cover(6, graph_of(6, edges)), [want], edges)

    def test_paths(self):
        for n in range(1, 7):
            self.assertEqual(pc_cover(n, graph_of(n, path(n))), [2 ** n - 1])

    def test_all_joined(self):
        for n in range(1, 7):
            self.assertEqual(pc_cover(n, graph_of(n, all_joined(n))), [2 * n - 1])

    def test_stars(self):
        for n in range(3, 7):
            self.assertEqual(pc_cover(n, graph_of(n, star(n))), [4 * n - 5])

    def test_rings(self):
        for n, want in ((3, 5), (4, 9), (5, 13), (6, 21)):
            self.assertEqual(pc_cover(n, graph_of(n, ring(n))), [want])

    def test_names_of_places_do_not_matter(self):
        for edges in (PATH_6, FORK_6, NET_6):
            want = pc_cover(6, graph_of(6, edges))
            for order in itertools.permutations(range(6)):
                renamed = [(order[i], order[j]) for i, j in edges]
                self.assertEqual(pc_cover(6, graph_of(6, renamed)), want, renamed)


class Edges(unittest.TestCase):
    def test_one_place(self):
        self.assertEqual(pc_cover(1, [0]), [1])

    def test_two_places(self):
        self.assertEqual(pc_cover(2, [2, 1]), [3])

    def test_six_places(self):
        for edges, want in ((PATH_6, 63), (RING_6, 21), (STAR_6, 19), (all_joined(6), 11)):
            self.assertEqual(pc_cover(6, graph_of(6, edges)), [want], edges)

    def test_one_fewer_can_lie_so_that_they_are_not_enough(self):
        for n, edges in ((2, path(2)), (4, path(4)), (5, KITE_5), (6, RING_6), (6, STAR_6), (6, PRISM_6)):
            with self.subTest(edges=edges):
                k = pc_cover(n, graph_of(n, edges))[0]
                covers = cover_finder(edges)
                at_one = [tuple(k if p == place else 0 for p in range(n)) for place in range(n)]
                self.assertTrue(all(covers(lying) for lying in at_one))
                at_one = [tuple(k - 1 if p == place else 0 for p in range(n)) for place in range(n)]
                self.assertFalse(all(covers(lying) for lying in at_one))


if __name__ == "__main__":
    unittest.main()

"""Point 2, pc_number."""

import itertools
import unittest

from coinmoves.places import pc_number
from plain_way import (
    ASKED_NEAR, BROOM_6, BULL_5, FORK_6, KITE_5, LADDER_6, NET_6, OTHERS, PRISM_6, RING_6, TREES,
    all_graphs, all_joined, graph_of, path, plain_away, plain_number, ring, spread, star, tree_number)


class OrdinaryInputs(unittest.TestCase):
    def hold_against_plain_way(self, n, edges):
        with self.subTest(n=n, edges=edges):
            self.assertEqual(pc_number(n, graph_of(n, edges)), [plain_number(n, edges)])

    def test_every_graph_up_to_four_places(self):
        for n in (1, 2, 3, 4):
            for edges in all_graphs(n):
                self.hold_against_plain_way(n, edges)

    def test_graphs_of_five_places(self):
        for edges in spread(all_graphs(5), 60):
            self.hold_against_plain_way(5, edges)

    def test_graphs_with_names(self):
        for n, edges in ASKED_NEAR:
            self.hold_against_plain_way(n, edges)

    def test_graphs_of_six_places(self):
        near = [edges for edges in spread(all_graphs(6), 60) if plain_away(6, edges) <= 3]
        self.assertGreater(len(near), 20)
        for edges in near:
            self.hold_against_plain_way(6, edges)

    def test_paths(self):
        for n in range(1, 6):
            self.assertEqual(pc_number(n, graph_of(n, path(n))), [2 ** (n - 1)])

    def test_all_joined(self):
        for n in range(1, 7):
            self.assertEqual(pc_number(n, graph_of(n, all_joined(n))), [n])

    def test_rings(self):
        for n, want in ((3, 3), (4, 4), (5, 5), (6, 8)):
            self.assertEqual(pc_number(n, graph_of(n, ring(n))), [want])

    def test_stars(self):
        for n in range(3, 7):
            self.assertEqual(pc_number(n, graph_of(n, star(n))), [n + 1])

    def test_trees_by_longest_paths(self):
        for n in range(1, 6):
            for edges in all_graphs(n):
                if len(edges) == n - 1:
                    self.assertEqual(pc_number(n, graph_of(n, edges)), [tree_number(n, edges)], edges)
        for n, edges in TREES + [(6, BROOM_6)]:
            self.assertEqual(pc_number(n, graph_of(n, edges)), [tree_number(n, edges)], edges)

    def test_names_of_places_do_not_matter(self):
        for n, edges in ((5, KITE_5), (5, BULL_5), (6, FORK_6), (6, LADDER_6)):
            want = pc_number(n, graph_of(n, edges))
            for order in spread(list(itertools.permutations(range(n))), 30):
                renamed = [(order[i], order[j]) for i, j in edges]
                self.assertEqual(pc_number(n, graph_of(n, renamed)), want, renamed)


class Edges(unittest.TestCase):
    def test_one_place(self):
        self.assertEqual(pc_number(1, [0]), [1])

    def test_two_places(self):
        self.assertEqual(pc_number(2, [2, 1]), [2])

    def test_path_of_five_in_every_order(self):
        for order in itertools.permutations(range(5)):
            g = graph_of(5, list(zip(order, order[1:])))
            self.assertEqual(pc_number(5, g), [16], order)

    def test_six_places_just_three_neighbours_away(self):
        for edges, want in ((RING_6, 8), (BROOM_6, 10), (FORK_6, 10), (LADDER_6, 8), (NET_6, 11)):
            self.assertEqual(plain_away(6, edges), 3)
            self.assertEqual(pc_number(6, graph_of(6, edges)), [want], edges)

    def test_as_few_as_there_are_places(self):
        self.assertEqual(pc_number(6, graph_of(6, PRISM_6)), [6])

    def test_never_fewer_than_places_or_than_the_farthest_needs(self):
        for n, edges in TREES + OTHERS + ASKED_NEAR:
            least = max(n, 2 ** plain_away(n, edges))
            self.assertGreaterEqual(pc_number(n, graph_of(n, edges))[0], least, edges)


if __name__ == "__main__":
    unittest.main()

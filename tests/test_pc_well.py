"""Point 6, pc_well."""

import itertools
import unittest

from coinmoves.places import pc_number, pc_well
from plain_way import (
    ASKED_NEAR, BROOM_6, BULL_5, FORK_6, KITE_5, LADDER_6, NET_6, PRISM_6, RING_6, TWO_SIDES_6,
    all_graphs, all_joined, graph_of, path, place_finder, plain_away, plain_well, ring, spread, star, ways_to_lie)


class OrdinaryInputs(unittest.TestCase):
    def hold_against_plain_way(self, n, edges):
        with self.subTest(n=n, edges=edges):
            self.assertEqual(pc_well(n, graph_of(n, edges)), [plain_well(n, edges)])

    def test_every_graph_up_to_four_places(self):
        for n in (1, 2, 3, 4):
            for edges in all_graphs(n):
                self.hold_against_plain_way(n, edges)

    def test_graphs_of_five_places(self):
        for edges in spread(all_graphs(5), 200):
            self.hold_against_plain_way(5, edges)

    def test_graphs_with_names(self):
        for n, edges in ASKED_NEAR:
            self.hold_against_plain_way(n, edges)

    def test_graphs_of_six_places(self):
        near = [edges for edges in spread(all_graphs(6), 200) if plain_away(6, edges) <= 3]
        self.assertGreater(len(near), 50)
        for edges in near:
            self.hold_against_plain_way(6, edges)

    def test_paths(self):
        for n in range(1, 6):
            self.assertEqual(pc_well(n, graph_of(n, path(n))), [(2 * n + 2) // 3])

    def test_rings(self):
        for n in range(3, 7):
            self.assertEqual(pc_well(n, graph_of(n, ring(n))), [(2 * n + 2) // 3])

    def test_stars(self):
        for n in range(3, 7):
            self.assertEqual(pc_well(n, graph_of(n, star(n))), [2])

    def test_all_joined(self):
        for n in range(2, 7):
            self.assertEqual(pc_well(n, graph_of(n, all_joined(n))), [2])

    def test_names_of_places_do_not_matter(self):
        for n, edges in ((5, KITE_5), (5, BULL_5), (6, FORK_6), (6, LADDER_6)):
            want = pc_well(n, graph_of(n, edges))
            for order in spread(list(itertools.permutations(range(n))), 30):
                renamed = [(order[i], order[j]) for i, j in edges]
                self.assertEqual(pc_well(n, graph_of(n, renamed)), want, renamed)


class Edges(unittest.TestCase):
    def test_one_place(self):
        self.assertEqual(pc_well(1, [0]), [1])

    def test_two_places(self):
        self.assertEqual(pc_well(2, [2, 1]), [2])

    def test_path_of_five_in_every_order(self):
        for order in itertools.permutations(range(5)):
            g = graph_of(5, list(zip(order, order[1:])))
            self.assertEqual(pc_well(5, g), [4], order)

    def test_six_places_just_three_neighbours_away(self):
        for edges, want in ((RING_6, 4), (BROOM_6, 3), (FORK_6, 3), (LADDER_6, 3), (NET_6, 4)):
            self.assertEqual(plain_away(6, edges), 3)
            self.assertEqual(pc_well(6, graph_of(6, edges)), [want], edges)

    def test_coins_for_each_place_but_not_for_all_at_once(self):
        self.assertEqual(pc_well(6, graph_of(6, TWO_SIDES_6)), [3])
        self.assertEqual(pc_well(6, graph_of(6, PRISM_6)), [3])

    def test_some_way_of_so_many_and_none_of_fewer(self):
        for n, edges in ASKED_NEAR:
            k = pc_well(n, graph_of(n, edges))[0]
            places_of = place_finder(edges)
            self.assertTrue(any(len(places_of(tuple(coins))) == n for coins in ways_to_lie(n, k)), edges)
            self.assertFalse(any(len(places_of(tuple(coins))) == n for coins in ways_to_lie(n, k - 1)), edges)
            self.assertLessEqual(k, pc_number(n, graph_of(n, edges))[0])


if __name__ == "__main__":
    unittest.main()

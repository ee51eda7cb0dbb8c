"""Point 1, pc_most, and what the document says ahead of the points."""

import itertools
import unittest

from coinmoves.places import pc_most
from plain_way import (
    OTHERS, PATH_3, PATH_4, PATH_6, PRISM_6, RING_4, RING_5, RING_6, STAR_6, TREES,
    all_graphs, all_joined, graph_of, plain_is_graph, plain_led_to, spread, tree_most, ways_to_lie)

LOW = -2147483648
HIGH = 2147483647


class OrdinaryInputs(unittest.TestCase):
    def hold_against_plain_way(self, n, edges, coins):
        led_to = plain_led_to(edges, coins)
        for r in range(n):
            with self.subTest(n=n, edges=edges, coins=coins, r=r):
                want = [max(lying[r] for lying in led_to)]
                self.assertEqual(pc_most(n, r, graph_of(n, edges), list(coins)), want)

    def test_worked_by_hand(self):
        path = graph_of(4, PATH_4)
        self.assertEqual(pc_most(4, 3, path, [8, 0, 0, 0]), [1])
        self.assertEqual(pc_most(4, 3, path, [7, 0, 0, 0]), [0])
        self.assertEqual(pc_most(4, 3, path, [7, 1, 0, 0]), [1])
        self.assertEqual(pc_most(4, 3, path, [16, 0, 0, 0]), [2])
        self.assertEqual(pc_most(4, 0, path, [1, 3, 1, 1]), [2])
        self.assertEqual(pc_most(3, 1, graph_of(3, PATH_3), [5, 1, 5]), [5])
        self.assertEqual(pc_most(5, 0, graph_of(5, RING_5), [0, 0, 3, 3, 0]), [1])
        self.assertEqual(pc_most(5, 0, graph_of(5, RING_5), [0, 0, 3, 1, 0]), [0])
        self.assertEqual(pc_most(6, 1, graph_of(6, STAR_6), [1, 0, 3, 1, 1, 1]), [1])
        self.assertEqual(pc_most(6, 1, graph_of(6, STAR_6), [0, 0, 3, 1, 1, 1]), [0])

    def test_coins_that_must_go_both_ways_round(self):
        self.assertEqual(pc_most(4, 0, graph_of(4, RING_4), [0, 2, 2, 2]), [2])
        self.assertEqual(pc_most(4, 0, graph_of(4, RING_4), [0, 1, 4, 1]), [2])

    def test_every_small_input(self):
        for n in (1, 2, 3, 4):
            for edges in all_graphs(n):
                for total in range(8):
                    for coins in ways_to_lie(n, total):
                        self.hold_against_plain_way(n, edges, coins)

    def test_all_totals_up_to_16(self):
        for n, edges in TREES + OTHERS + [(n, all_joined(n)) for n in (3, 4, 5, 6)]:
            for total in range(17):
                for coins in spread(ways_to_lie(n, total), 5):
                    self.hold_against_plain_way(n, edges, coins)

    def test_trees_by_halving_towards_r(self):
        for n, edges in TREES:
            for total in (5, 9, 13, 16):
                for coins in spread(ways_to_lie(n, total), 12):
                    for r in range(n):
                        with self.subTest(n=n, edges=edges, coins=coins, r=r):
                            want = [tree_most(edges, r, coins)]
                            self.assertEqual(pc_most(n, r, graph_of(n, edges), coins), want)

    def test_all_joined_by_halving_each(self):
        for n in range(1, 7):
            g = graph_of(n, all_joined(n))
            for coins in spread(ways_to_lie(n, 16), 8):
                for r in range(n):
                    with self.subTest(n=n, coins=coins, r=r):
                        want = [sum(k if p == r else k // 2 for p, k in enumerate(coins))]
                        self.assertEqual(pc_most(n, r, g, coins), want)


class Edges(unittest.TestCase):
    def test_one_place(self):
        for total in range(17):
            self.assertEqual(pc_most(1, 0, [0], [total]), [total])

    def test_six_places_first_and_last(self):
        path = graph_of(6, PATH_6)
        self.assertEqual(pc_most(6, 0, path, [0, 0, 0, 0, 16, 0]), [1])
        self.assertEqual(pc_most(6, 0, path, [0, 0, 0, 0, 0, 16]), [0])
        self.assertEqual(pc_most(6, 5, path, [0, 16, 0, 0, 0, 0]), [1])
        self.assertEqual(pc_most(6, 5, path, [16, 0, 0, 0, 0, 0]), [0])
        self.assertEqual(pc_most(6, 5, path, [1, 3, 3, 3, 3, 3]), [5])

    def test_no_coins(self):
        for n in range(1, 7):
            for r in range(n):
                self.assertEqual(pc_most(n, r, graph_of(n, all_joined(n)), [0] * n), [0])

    def test_no_move_to_be_had(self):
        for n in range(2, 7):
            g = graph_of(n, all_joined(n))
            for coins in itertools.product((0, 1), repeat=n):
                for r in range(n):
                    self.assertEqual(pc_most(n, r, g, list(coins)), [coins[r]])

    def test_moves_never_cost_r_its_coins(self):
        self.assertEqual(pc_most(6, 2, graph_of(6, PRISM_6), [0, 0, 16, 0, 0, 0]), [16])
        self.assertEqual(pc_most(6, 2, graph_of(6, RING_6), [1, 1, 11, 1, 1, 1]), [11])

    def test_all_coins_at_one_place(self):
        ring = graph_of(6, RING_6)
        for start in range(6):
            coins = [16 if p == start else 0 for p in range(6)]
            for r in range(6):
                steps = min((start - r) % 6, (r - start) % 6)
                self.assertEqual(pc_most(6, r, ring, coins), [16 >> steps])

    def test_16_coins_on_most_neighbours(self):
        g = graph_of(6, all_joined(6))
        self.assertEqual(pc_most(6, 0, g, [3, 3, 3, 3, 2, 2]), [8])
        self.assertEqual(pc_most(6, 5, g, [16, 0, 0, 0, 0, 0]), [8])

    def test_100_at_a_place_are_not_too_many(self):
        self.assertEqual(pc_most(1, 0, [0], [100]), [100])
        self.assertEqual(pc_most(2, 0, [2, 1], [0, 100]), [50])
        self.assertEqual(pc_most(2, 1, [2, 1], [51, 50]), [75])


class Refusals(unittest.TestCase):
    def test_n_out_of_range(self):
        for n in (0, 7, 8, -1, -6, LOW, HIGH):
            for r in (0, 1, -1, 7, n - 1 if n > LOW else n, LOW, HIGH):
                with self.subTest(n=n, r=r):
                    self.assertEqual(pc_most(n, r, [], []), [-2])

    def test_r_out_of_range(self):
        for n in range(1, 7):
            for r in (-1, -n, n, n + 1, 7, LOW, HIGH):
                with self.subTest(n=n, r=r):
                    self.assertEqual(pc_most(n, r, graph_of(n, all_joined(n)), [2] * n), [-2])

    def test_neighbour_that_is_no_place(self):
        for n in range(1, 7):
            for bit in range(n, 8):
                for i in range(n):
                    g = graph_of(n, all_joined(n))
                    g[i] |= 1 << bit
                    with self.subTest(n=n, g=g):
                        self.assertEqual(pc_most(n, 0, g, [1] * n), [-3])
        self.assertEqual(pc_most(1, 0, [255], [0]), [-3])

    def test_place_its_own_neighbour(self):
        for n in range(1, 7):
            for i in range(n):
                g = graph_of(n, all_joined(n))
                g[i] |= 1 << i
                with self.subTest(n=n, g=g):
                    self.assertEqual(pc_most(n, n - 1, g, [1] * n), [-3])

    def test_neighbour_on_one_side_alone(self):
        for n in range(3, 7):
            for i, j in itertools.permutations(range(n), 2):
                g = graph_of(n, all_joined(n))
                g[i] &= ~(1 << j)
                with self.subTest(n=n, g=g):
                    self.assertEqual(pc_most(n, 0, g, [1] * n), [-3])
        self.assertEqual(pc_most(2, 0, [2, 0], [1, 1]), [-3])
        self.assertEqual(pc_most(2, 0, [0, 1], [1, 1]), [-3])

    def test_places_that_one_does_not_come_to(self):
        for n in range(2, 7):
            for alone in range(n):
                edges = [pair for pair in all_joined(n) if alone not in pair]
                with self.subTest(n=n, alone=alone):
                    self.assertEqual(pc_most(n, 0, graph_of(n, edges), [1] * n), [-3])
            self.assertEqual(pc_most(n, 0, [0] * n, [0] * n), [-3])
        self.assertEqual(pc_most(4, 0, graph_of(4, [(0, 1), (2, 3)]), [4, 0, 0, 0]), [-3])
        self.assertEqual(pc_most(6, 0, graph_of(6, [(0, 2), (2, 4), (1, 3), (3, 5)]), [4] + [0] * 5), [-3])

    def test_just_what_is_no_graph(self):
        for n, numbers in ((1, 256), (2, 256), (3, 16), (4, 16)):
            for g in itertools.product(range(numbers), repeat=n):
                want = [1] if plain_is_graph(n, g) else [-3]
                # A message of its own in place of a subTest: there are too many inputs for these.
                self.assertEqual(pc_most(n, n - 1, list(g), [1] * n), want, g)

    def test_paths_in_every_order_are_joined(self):
        for order in itertools.permutations(range(6)):
            g = graph_of(6, list(zip(order, order[1:])))
            self.assertEqual(pc_most(6, 3, g, [1] * 6), [1], order)

    def test_too_many_coins(self):
        for n in range(1, 7):
            g = graph_of(n, all_joined(n))
            for many in (101, 255):
                for place in range(n):
                    for rest in (0, 2, 100, 255):
                        coins = [many if p == place else rest for p in range(n)]
                        with self.subTest(n=n, coins=coins):
                            self.assertEqual(pc_most(n, 0, g, coins), [-3])

    def test_no_graph_and_too_many_coins(self):
        self.assertEqual(pc_most(2, 0, [3, 1], [101, 0]), [-3])
        self.assertEqual(pc_most(3, 2, [0, 0, 0], [0, 255, 0]), [-3])

    def test_range_before_graph_and_coins(self):
        not_graphs = ([10, 5, 2], [3, 5, 2], [2, 4, 2], [2, 1, 0], [255, 255, 255])
        for r in (-1, 3, LOW, HIGH):
            for g in not_graphs:
                self.assertEqual(pc_most(3, r, g, [1, 1, 1]), [-2])
                self.assertEqual(pc_most(3, r, g, [0, 255, 0]), [-2])
            for many in (101, 255):
                self.assertEqual(pc_most(3, r, graph_of(3, PATH_3), [0, many, 0]), [-2])
        for g in not_graphs:
            self.assertEqual(pc_most(3, 2, g, [1, 1, 1]), [-3])


if __name__ == "__main__":
    unittest.main()

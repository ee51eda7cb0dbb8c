"""Point 3, pc_short."""

import itertools
import unittest

from coinmoves.places import pc_number, pc_short
from plain_way import (
    ASKED_NEAR, BROOM_6, FORK_6, LADDER_6, NET_6, RING_4, RING_5, RING_6, STAR_5, STAR_6,
    all_graphs, all_joined, graph_of, plain_away, plain_led_to, plain_number, plain_shorts, spread)


class OrdinaryInputs(unittest.TestCase):
    def hold_against_plain_way(self, n, edges):
        with self.subTest(n=n, edges=edges):
            first = plain_shorts(n, edges, plain_number(n, edges) - 1)[0]
            self.assertEqual(pc_short(n, graph_of(n, edges)), [0] + first)

    def test_every_graph_up_to_four_places(self):
        for n in (1, 2, 3, 4):
            for edges in all_graphs(n):
                self.hold_against_plain_way(n, edges)

    def test_graphs_of_five_places(self):
        for edges in spread(all_graphs(5), 50):
            self.hold_against_plain_way(5, edges)

    def test_graphs_with_names(self):
        for n, edges in ASKED_NEAR:
            self.hold_against_plain_way(n, edges)

    def test_graphs_of_six_places(self):
        near = [edges for edges in spread(all_graphs(6), 50) if plain_away(6, edges) <= 3]
        self.assertGreater(len(near), 20)
        for edges in near:
            self.hold_against_plain_way(6, edges)

    def test_one_fewer_than_pc_number_and_short_of_a_place(self):
        for n, edges in ASKED_NEAR:
            with self.subTest(n=n, edges=edges):
                g = graph_of(n, edges)
                answer = pc_short(n, g)
                self.assertEqual((len(answer), answer[0]), (n + 1, 0))
                self.assertEqual(sum(answer[1:]), pc_number(n, g)[0] - 1)
                led_to = plain_led_to(edges, answer[1:])
                self.assertTrue(any(max(lying[r] for lying in led_to) == 0 for r in range(n)))

    def test_places_in_another_order(self):
        for edges in (STAR_5, RING_5):
            for order in spread(list(itertools.permutations(range(5))), 20):
                self.hold_against_plain_way(5, [(order[i], order[j]) for i, j in edges])
        for edges in (FORK_6, NET_6):
            for order in spread(list(itertools.permutations(range(6))), 8):
                self.hold_against_plain_way(6, [(order[i], order[j]) for i, j in edges])


class Edges(unittest.TestCase):
    def test_one_place_has_no_coins(self):
        self.assertEqual(pc_short(1, [0]), [0, 0])

    def test_two_places(self):
        self.assertEqual(pc_short(2, [2, 1]), [0, 0, 1])

    def test_path_of_five_in_every_order(self):
        for order in itertools.permutations(range(5)):
            g = graph_of(5, list(zip(order, order[1:])))
            # All lie at one end; the end that comes later as a place leaves fewer at the first places.
            want = [15 if place == max(order[0], order[4]) else 0 for place in range(5)]
            self.assertEqual(pc_short(5, g), [0] + want, order)

    def test_six_places_just_three_neighbours_away(self):
        for edges, want in ((RING_6, [0, 0, 0, 0, 0, 7]), (LADDER_6, [0, 0, 0, 0, 0, 7]), (NET_6, [0, 0, 3, 0, 7, 0]),
                            (BROOM_6, [0, 0, 1, 0, 1, 7]), (FORK_6, [0, 0, 0, 1, 7, 1])):
            self.assertEqual(plain_away(6, edges), 3)
            self.assertEqual(pc_short(6, graph_of(6, edges)), [0] + want, edges)

    def test_the_first_of_several(self):
        for n, edges, several, want in (
                (4, RING_4, 8, [0, 0, 0, 3]), (5, RING_5, 30, [0, 0, 0, 1, 3]), (5, STAR_5, 12, [0, 1, 0, 1, 3]),
                (6, STAR_6, 20, [0, 0, 1, 1, 1, 3]), (6, RING_6, 12, [0, 0, 0, 0, 0, 7])):
            with self.subTest(edges=edges):
                self.assertEqual(len(plain_shorts(n, edges, sum(want))), several)
                self.assertEqual(pc_short(n, graph_of(n, edges)), [0] + want)

    def test_all_joined_lacks_place_0(self):
        for n in range(1, 7):
            self.assertEqual(pc_short(n, graph_of(n, all_joined(n))), [0, 0] + [1] * (n - 1))


if __name__ == "__main__":
    unittest.main()

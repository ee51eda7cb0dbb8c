"""Point 5, pc_covers."""

import itertools
import unittest

from coinmoves.places import pc_covers
from plain_way import (
    ASKED_NEAR, KITE_5, NET_6, PATH_3, PATH_4, PATH_6, RING_4, RING_5, RING_6, STAR_5, STAR_6,
    all_graphs, all_joined, cover_finder, graph_of, path, plain_led_to, plain_steps, spread, ways_to_lie)


def at_one(n, place, coins):
    return [coins if p == place else 0 for p in range(n)]


class OrdinaryInputs(unittest.TestCase):
    def hold_against_plain_way(self, n, edges, coins):
        want = [1 if any(min(lying) > 0 for lying in plain_led_to(edges, coins)) else 0]
        self.assertEqual(pc_covers(n, graph_of(n, edges), list(coins)), want, (edges, coins))
        return want

    def test_worked_by_hand(self):
        self.assertEqual(pc_covers(3, graph_of(3, PATH_3), [0, 5, 0]), [1])
        self.assertEqual(pc_covers(3, graph_of(3, PATH_3), [0, 4, 0]), [0])
        self.assertEqual(pc_covers(3, graph_of(3, PATH_3), [3, 0, 3]), [1])
        self.assertEqual(pc_covers(3, graph_of(3, PATH_3), [2, 0, 1]), [0])
        self.assertEqual(pc_covers(4, graph_of(4, PATH_4), [3, 0, 0, 3]), [1])
        self.assertEqual(pc_covers(4, graph_of(4, PATH_4), [4, 0, 0, 2]), [0])
        self.assertEqual(pc_covers(4, graph_of(4, RING_4), [3, 0, 3, 0]), [1])
        self.assertEqual(pc_covers(5, graph_of(5, STAR_5), [3, 3, 1, 0, 0]), [0])
        self.assertEqual(pc_covers(5, graph_of(5, STAR_5), [3, 3, 3, 0, 0]), [1])

    def test_every_small_input(self):
        for n in (1, 2, 3, 4):
            for edges in all_graphs(n):
                for total in range(9):
                    for coins in ways_to_lie(n, total):
                        self.hold_against_plain_way(n, edges, coins)

    def test_all_totals_up_to_16(self):
        answers = []
        for n, edges in ASKED_NEAR + [(6, PATH_6)]:
            for total in range(17):
                for coins in spread(ways_to_lie(n, total), 4):
                    answers.append(self.hold_against_plain_way(n, edges, coins))
        self.assertGreater(answers.count([1]), 200)
        self.assertGreater(answers.count([0]), 200)

    def test_many_graphs_of_six_places(self):
        for number, edges in enumerate(spread(all_graphs(6), 30)):
            for coins in spread(ways_to_lie(6, 9 + number % 8), 5):
                self.hold_against_plain_way(6, edges, coins)


class Edges(unittest.TestCase):
    def test_one_place(self):
        self.assertEqual(pc_covers(1, [0], [0]), [0])
        for coins in range(1, 17):
            self.assertEqual(pc_covers(1, [0], [coins]), [1])

    def test_no_coins(self):
        for n, edges in ASKED_NEAR + [(6, PATH_6)]:
            self.assertEqual(pc_covers(n, graph_of(n, edges), [0] * n), [0])

    def test_one_coin_at_every_place(self):
        for n, edges in ASKED_NEAR + [(6, PATH_6)]:
            self.assertEqual(pc_covers(n, graph_of(n, edges), [1] * n), [1])
            for place in range(n):
                lacking = [0 if p == place else 1 for p in range(n)]
                self.assertEqual(pc_covers(n, graph_of(n, edges), lacking), [0])

    def test_enough_where_they_lie(self):
        for n in range(1, 7):
            for place in range(n):
                coins = [17 - n if p == place else 1 for p in range(n)]
                self.assertEqual(pc_covers(n, graph_of(n, path(n)), coins), [1])

    def test_all_coins_at_one_place_just_enough_and_one_fewer(self):
        for n, edges in ASKED_NEAR + [(6, PATH_6)]:
            for place, row in enumerate(plain_steps(n, edges)):
                enough = sum(2 ** away for away in row)
                if enough <= 16:
                    self.assertEqual(pc_covers(n, graph_of(n, edges), at_one(n, place, enough)), [1], edges)
                    self.assertEqual(pc_covers(n, graph_of(n, edges), at_one(n, place, 16)), [1], edges)
                else:
                    self.assertEqual(pc_covers(n, graph_of(n, edges), at_one(n, place, 16)), [0], edges)
                if enough <= 17:
                    self.assertEqual(pc_covers(n, graph_of(n, edges), at_one(n, place, enough - 1)), [0], edges)

    def test_16_coins_just_enough_and_one_fewer(self):
        for edges in (PATH_6, STAR_6, RING_6, NET_6):
            g, covers, found = graph_of(6, edges), cover_finder(edges), 0
            for coins in spread(ways_to_lie(6, 16), 500):
                fewer = [[k - (p == place) for p, k in enumerate(coins)] for place in range(6) if coins[place] > 0]
                too_few = [lying for lying in fewer if not covers(tuple(lying))]
                if covers(tuple(coins)) and too_few:
                    found += 1
                    self.assertEqual(pc_covers(6, g, coins), [1], (edges, coins))
                    for lying in too_few:
                        self.assertEqual(pc_covers(6, g, lying), [0], (edges, lying))
            self.assertGreater(found, 10, edges)

    def test_a_coin_at_every_place_but_not_at_once(self):
        # Four at an end of a path bring one to whatever place, but not to all.
        self.assertEqual(pc_covers(3, graph_of(3, PATH_3), [4, 0, 0]), [0])
        self.assertEqual(pc_covers(5, graph_of(5, RING_5), [0, 0, 3, 3, 0]), [0])

    def test_100_at_a_place_are_not_too_many(self):
        self.assertEqual(pc_covers(1, [0], [100]), [1])
        self.assertEqual(pc_covers(2, [2, 1], [0, 100]), [1])
        self.assertEqual(pc_covers(3, [2, 5, 2], [100, 100, 100]), [1])


class TooManyCoins(unittest.TestCase):
    def test_too_many_coins(self):
        for n in range(1, 7):
            g = graph_of(n, all_joined(n))
            for many, place, rest in itertools.product((101, 102, 255), range(n), (0, 1, 100, 255)):
                coins = [many if p == place else rest for p in range(n)]
                self.assertEqual(pc_covers(n, g, coins), [-3], coins)

    def test_no_graph_and_too_many_coins(self):
        for g in ([10, 5, 2], [3, 5, 2], [2, 4, 2], [2, 1, 0], [255, 255, 255]):
            self.assertEqual(pc_covers(3, g, [0, 101, 0]), [-3])
            self.assertEqual(pc_covers(3, g, [1, 1, 1]), [-3])
            self.assertEqual(pc_covers(3, g, [0, 0, 0]), [-3])

    def test_n_out_of_range(self):
        for n in (0, 7, -1, -2147483648, 2147483647):
            self.assertEqual(pc_covers(n, [], []), [-2])

    def test_answer_is_a_whole_number(self):
        for coins in ([5, 0, 0], [6, 0, 1], [7, 0, 0]):
            answer = pc_covers(3, [2, 5, 2], coins)
            self.assertEqual([type(answer), [type(number) for number in answer]], [list, [int]])
        self.assertEqual(pc_covers(5, graph_of(5, KITE_5), [1, 2, 3, 4, 5]), [1])


if __name__ == "__main__":
    unittest.main()

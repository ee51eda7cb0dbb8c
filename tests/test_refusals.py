"""The row ahead of the points, for each of the calls: -2 before -3."""

import itertools
import unittest

from coinmoves import places
from plain_way import all_joined, graph_of, plain_is_graph

LOW = -2147483648
HIGH = 2147483647

# Each call by the places and the graph alone; where it takes coins, one at each place.
CALLS = {
    "pc_most": lambda n, g: places.pc_most(n, 0, g, [1] * len(g)),
    "pc_number": places.pc_number,
    "pc_short": places.pc_short,
    "pc_cover": places.pc_cover,
    "pc_covers": lambda n, g: places.pc_covers(n, g, [1] * len(g)),
    "pc_well": places.pc_well,
}


class Refusals(unittest.TestCase):
    def hold(self, n, g, want):
        for name, call in CALLS.items():
            with self.subTest(name=name, n=n, g=g):
                self.assertEqual(call(n, list(g)), want)

    def test_n_out_of_range(self):
        # No numbers are no graph either: -2 comes before -3.
        for n in (0, 7, 8, 31, 32, 64, 255, -1, -2, -6, LOW, LOW + 1, HIGH - 1, HIGH):
            self.hold(n, [], [-2])

    def test_neighbour_that_is_no_place(self):
        for n in range(1, 7):
            for bit in range(n, 8):
                for i in range(n):
                    g = graph_of(n, all_joined(n))
                    g[i] |= 1 << bit
                    self.hold(n, g, [-3])
            self.hold(n, [255] * n, [-3])

    def test_place_its_own_neighbour(self):
        for n in range(1, 7):
            for i in range(n):
                g = graph_of(n, all_joined(n))
                g[i] |= 1 << i
                self.hold(n, g, [-3])
            self.hold(n, [(1 << n) - 1] * n, [-3])

    def test_neighbour_on_one_side_alone(self):
        for n in range(2, 7):
            for i, j in itertools.permutations(range(n), 2):
                g = graph_of(n, all_joined(n))
                g[i] &= ~(1 << j)
                self.hold(n, g, [-3])

    def test_places_that_one_does_not_come_to(self):
        for n in range(2, 7):
            for alone in range(n):
                edges = [pair for pair in all_joined(n) if alone not in pair]
                self.hold(n, graph_of(n, edges), [-3])
            self.hold(n, [0] * n, [-3])
        self.hold(4, graph_of(4, [(0, 1), (2, 3)]), [-3])
        self.hold(6, graph_of(6, [(0, 2), (2, 4), (1, 3), (3, 5)]), [-3])
        self.hold(6, graph_of(6, [(0, 5), (1, 4), (2, 3)]), [-3])

    def test_just_what_is_no_graph(self):
        for n, numbers in ((1, 256), (2, 256), (3, 16)):
            for g in itertools.product(range(numbers), repeat=n):
                for name, call in CALLS.items():
                    # A message in place of a subTest: there are too many inputs for these.
                    self.assertEqual(call(n, list(g)) == [-3], not plain_is_graph(n, g), (name, g))


if __name__ == "__main__":
    unittest.main()

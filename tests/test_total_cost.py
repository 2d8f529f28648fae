"""Point 1 of the operations: total_cost(chains, order)."""

import inspect
import unittest

from chainjobs.orders import total_cost
from tests.cases import (EXAMPLE, all_orders, cost_by_definition, flat, large_chains, lengths_of,
                         small_chains)


class TotalCostOfOrders(unittest.TestCase):
    def test_names_of_the_arguments(self):
        self.assertEqual(str(inspect.signature(total_cost)), "(chains, order)")
        self.assertEqual(total_cost(chains=EXAMPLE, order=[0, 0, 1]), [34])

    def test_orders_of_the_example(self):
        self.assertEqual(total_cost(EXAMPLE, [0, 0, 1]), [34])
        self.assertEqual(total_cost(EXAMPLE, [1, 0, 0]), [44])
        self.assertEqual(total_cost(EXAMPLE, [0, 1, 0]), [48])

    def test_no_chain(self):
        self.assertEqual(total_cost([], []), [0])

    def test_chains_without_jobs(self):
        self.assertEqual(total_cost([0], []), [0])
        self.assertEqual(total_cost([0, 0, 0, 0], []), [0])
        self.assertEqual(total_cost([0, 1, 5, 7, 0, 1, 2, 3], [3, 1]), [2 * 3 + 7 * 7])

    def test_four_chains(self):
        chains = [1, 1, 1, 1, 2, 2, 1, 3, 3, 1, 4, 4]
        self.assertEqual(total_cost(chains, [3, 2, 1, 0]), [16 + 21 + 18 + 10])

    def test_seven_jobs(self):
        self.assertEqual(total_cost([7] + [1, 1] * 7, [0] * 7), [28])
        self.assertEqual(total_cost([7] + [99, 99] * 7, [0] * 7), [99 * 99 * 28])
        self.assertEqual(total_cost([3] + [99, 99] * 3 + [4] + [99, 99] * 4, [1, 0, 1, 0, 1, 0, 1]),
                         [99 * 99 * 28])

    def test_least_and_greatest_durations_and_weights(self):
        self.assertEqual(total_cost([1, 1, 0], [0]), [0])
        self.assertEqual(total_cost([1, 99, 0], [0]), [0])
        self.assertEqual(total_cost([1, 1, 99], [0]), [99])
        self.assertEqual(total_cost([1, 99, 99], [0]), [9801])
        self.assertEqual(total_cost([1, 99, 0, 1, 1, 99], [0, 1]), [9900])

    def test_every_order_of_small_chains(self):
        for chains in small_chains():
            for order in all_orders(lengths_of(chains)):
                self.assertEqual(total_cost(flat(chains), order),
                                 [cost_by_definition(chains, order)], (chains, order))

    def test_orders_of_large_chains(self):
        for chains in large_chains():
            for order in all_orders(lengths_of(chains)):
                self.assertEqual(total_cost(flat(chains), order),
                                 [cost_by_definition(chains, order)], (chains, order))


if __name__ == "__main__":
    unittest.main()

"""Point 2 of the operations: optimal_order(chains), and that no order costs less."""

import unittest

from chainjobs.orders import optimal_order
from tests.cases import (EXAMPLE, all_orders, cost_by_definition, flat, large_chains, lengths_of,
                         small_chains)


class OptimalOrder(unittest.TestCase):
    def answers(self, chains, *answer):
        self.assertEqual(optimal_order(chains), list(answer), chains)

    def test_the_example(self):
        self.answers(EXAMPLE, 34, 0, 0, 1)

    def test_the_example_with_its_chains_the_other_way_round(self):
        self.answers([1, 2, 4, 2, 1, 0, 1, 9], 34, 1, 1, 0)

    def test_a_tie_with_a_prefix_of_several_jobs(self):
        # Both chains have the density 2, the first one only with both its jobs.
        self.answers([2, 1, 1, 1, 3, 1, 1, 2], 1 + 6 + 6, 0, 0, 1)
        self.answers([1, 1, 2, 2, 1, 1, 1, 3], 2 + 2 + 9, 0, 1, 1)

    def test_a_tie_between_prefixes_of_a_chain(self):
        self.answers([3, 1, 2, 1, 0, 1, 4, 1, 1, 2], 2 + 12 + 8, 0, 0, 0, 1)
        self.answers([1, 1, 1, 3, 1, 2, 1, 0, 1, 4], 2 + 12 + 4, 1, 1, 1, 0)
        self.answers([2, 1, 0, 1, 0, 1, 1, 0], 0, 0, 0, 1)

    def test_a_chain_is_left_and_taken_up_again(self):
        self.answers([2, 1, 9, 1, 1, 1, 1, 5], 9 + 10 + 3, 0, 1, 0)
        self.answers([3, 1, 9, 1, 0, 1, 2, 1, 1, 5], 9 + 10 + 2 * 4, 0, 1, 0, 0)

    def test_a_heavy_job_draws_the_light_ones_before_it(self):
        self.answers([3, 1, 9, 9, 0, 1, 99, 1, 1, 9], 9 + 99 * 11 + 9 * 12, 0, 0, 0, 1)
        self.answers([3, 1, 9, 9, 0, 1, 99, 1, 1, 50], 50 + 9 * 2 + 99 * 12, 1, 0, 0, 0)

    def test_a_prefix_of_six_jobs_beside_another_chain(self):
        self.answers([6] + [1, 0] * 5 + [1, 99, 1, 1, 1], 99 * 6 + 7, 0, 0, 0, 0, 0, 0, 1)
        self.answers([1, 1, 1, 6] + [1, 0] * 5 + [1, 7], 7 * 6 + 7, 1, 1, 1, 1, 1, 1, 0)
        self.answers([1, 1, 1, 6] + [1, 0] * 5 + [1, 6], 1 + 6 * 7, 0, 1, 1, 1, 1, 1, 1)


class Optimality(unittest.TestCase):
    def check(self, chains):
        least = min(cost_by_definition(chains, order) for order in all_orders(lengths_of(chains)))
        self.assertEqual(optimal_order(flat(chains))[0], least, chains)

    def test_no_order_of_small_chains_costs_less(self):
        for chains in small_chains():
            self.check(chains)

    def test_no_order_of_large_chains_costs_less(self):
        for chains in large_chains():
            self.check(chains)

    def test_the_smallest_cost_does_not_depend_on_the_numbers(self):
        for chains in list(small_chains()) + list(large_chains()):
            self.assertEqual(optimal_order(flat(chains))[0],
                             optimal_order(flat(chains[::-1]))[0], chains)


if __name__ == "__main__":
    unittest.main()

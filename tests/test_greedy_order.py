"""Point 3 of the operations: greedy_order(chains), and Smith's rule."""

import unittest

from chainjobs.orders import greedy_order, optimal_order
from tests.cases import (EXAMPLE, all_orders, cost_by_definition, flat, large_chains, lengths_of,
                         single_jobs, small_chains)


class GreedyOrder(unittest.TestCase):
    def answers(self, chains, *answer):
        self.assertEqual(greedy_order(chains), list(answer), chains)

    def test_the_example(self):
        self.answers(EXAMPLE, 44, 1, 0, 0)

    def test_the_example_with_its_chains_the_other_way_round(self):
        self.answers([1, 2, 4, 2, 1, 0, 1, 9], 44, 0, 1, 1)

    def test_four_chains(self):
        self.answers([1, 2, 4, 1, 4, 1, 2, 1, 0, 1, 9, 1, 1, 3], 3 + 12 + 7 + 81, 3, 0, 1, 2, 2)

    def test_seven_jobs(self):
        self.answers([6, 1, 1] + [1, 99] * 5 + [1, 1, 2], 2 + 2 + 99 * (3 + 4 + 5 + 6 + 7),
                     1, 0, 0, 0, 0, 0, 0)

    def test_a_tie_with_a_later_job_of_the_first_chain(self):
        self.answers([2, 1, 1, 1, 2, 1, 1, 2], 2 + 2 + 6, 1, 0, 0)
        self.answers([2, 1, 3, 1, 2, 1, 1, 2], 3 + 4 + 6, 0, 0, 1)
        self.answers([1, 1, 2, 2, 1, 3, 1, 2], 3 + 4 + 6, 1, 0, 1)

    def test_later_jobs_of_a_chain_do_not_count(self):
        # Both jobs of chain 0 together are denser than the job of chain 1.
        self.answers([2, 1, 1, 1, 99, 1, 1, 2], 2 + 2 + 297, 1, 0, 0)
        # The first job of chain 0 is less dense than chain 1, the second one makes up for it.
        self.answers([2, 1, 1, 1, 3, 1, 1, 2], 2 + 2 + 9, 1, 0, 0)

    def test_a_single_job_at_a_time_is_taken(self):
        self.answers([2, 1, 9, 1, 1, 1, 1, 5], 9 + 10 + 3, 0, 1, 0)
        self.answers([3, 1, 5, 1, 0, 1, 9, 1, 1, 4], 5 + 8 + 0 + 36, 0, 1, 0, 0)
        self.answers([2, 1, 4, 1, 2, 2, 1, 3, 1, 1], 4 + 6 + 6 + 4, 0, 1, 0, 1)

    def test_it_costs_no_less_than_the_optimal_order(self):
        for chains in list(small_chains()) + list(large_chains()):
            self.assertGreaterEqual(greedy_order(flat(chains))[0],
                                    optimal_order(flat(chains))[0], chains)


class SmithsRule(unittest.TestCase):
    def test_the_cost_of_the_optimal_order_for_single_jobs(self):
        for chains in single_jobs():
            cost = greedy_order(flat(chains))[0]
            self.assertEqual(cost, optimal_order(flat(chains))[0], chains)

    def test_no_order_of_single_jobs_costs_less(self):
        for chains in single_jobs():
            least = min(cost_by_definition(chains, order)
                        for order in all_orders(lengths_of(chains)))
            self.assertEqual(greedy_order(flat(chains))[0], least, chains)


if __name__ == "__main__":
    unittest.main()

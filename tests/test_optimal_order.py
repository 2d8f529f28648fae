"""Point 2 of the operations: optimal_order(chains), and that no order costs less."""

import inspect
import unittest

from chainjobs.orders import find_densest_prefix, optimal_order, total_cost
from tests.cases import (EXAMPLE, OUTSIDE_LIMITS, Untouchable, all_orders, cost_by_definition,
                         flat, large_chains, lengths_of, optimal_by_definition, small_chains)


class OptimalOrder(unittest.TestCase):
    def answers(self, chains, *answer):
        self.assertEqual(optimal_order(chains), list(answer), chains)

    def test_name_of_the_argument(self):
        self.assertEqual(str(inspect.signature(optimal_order)), "(chains)")
        self.assertEqual(optimal_order(chains=EXAMPLE), [34, 0, 0, 1])

    def test_the_example(self):
        self.answers(EXAMPLE, 34, 0, 0, 1)

    def test_the_example_with_its_chains_the_other_way_round(self):
        self.answers([1, 2, 4, 2, 1, 0, 1, 9], 34, 1, 1, 0)

    def test_no_chain(self):
        self.answers([], 0)

    def test_chains_without_jobs(self):
        self.answers([0], 0)
        self.answers([0, 0, 0, 0], 0)
        self.answers([0, 1, 5, 7], 35, 1)
        self.answers([1, 5, 7, 0, 0, 0], 35, 0)
        self.answers([0, 1, 1, 1, 0, 1, 1, 2], 4, 3, 1)

    def test_four_chains(self):
        self.answers([1, 1, 1, 1, 1, 2, 1, 1, 3, 1, 1, 4], 20, 3, 2, 1, 0)

    def test_seven_jobs(self):
        self.answers([7] + [1, 1] * 7, 28, 0, 0, 0, 0, 0, 0, 0)
        self.answers([7] + [99, 99] * 7, 274428, 0, 0, 0, 0, 0, 0, 0)
        self.answers([3] + [1, 1] * 3 + [4] + [1, 2] * 4, 38, 1, 1, 1, 1, 0, 0, 0)

    def test_least_and_greatest_durations_and_weights(self):
        self.answers([1, 1, 0], 0, 0)
        self.answers([1, 99, 99], 9801, 0)
        self.answers([1, 99, 0, 1, 1, 99], 99, 1, 0)
        self.answers([1, 99, 1, 1, 99, 0, 1, 98, 1, 1, 1, 99], 99 + 99 + 198, 3, 2, 0, 1)

    def test_densities_that_differ_by_very_little(self):
        # 97 / 98 is less than 98 / 99.
        self.answers([1, 98, 97, 1, 99, 98], 98 * 99 + 97 * 197, 1, 0)
        self.answers([1, 99, 98, 1, 98, 97], 98 * 99 + 97 * 197, 0, 1)

    def test_the_first_chain_in_a_tie(self):
        self.answers([1, 1, 1] * 4, 10, 0, 1, 2, 3)
        self.answers([1, 4, 2, 1, 2, 1, 1, 6, 3], 8 + 6 + 36, 0, 1, 2)
        self.answers([1, 3, 1, 1, 6, 3, 1, 2, 1], 18 + 8 + 11, 1, 2, 0)
        self.answers([1, 3, 0, 1, 1, 0, 1, 2, 0], 0, 0, 1, 2)

    def test_a_tie_with_a_prefix_of_several_jobs(self):
        # Both chains have the density 2, the first one only with both its jobs.
        self.answers([2, 1, 1, 1, 3, 1, 1, 2], 1 + 6 + 6, 0, 0, 1)
        self.answers([1, 1, 2, 2, 1, 1, 1, 3], 2 + 2 + 9, 0, 1, 1)

    def test_a_tie_between_prefixes_of_a_chain(self):
        self.answers([3, 1, 2, 1, 0, 1, 4, 1, 1, 2], 2 + 12 + 8, 0, 0, 0, 1)
        self.answers([1, 1, 1, 3, 1, 2, 1, 0, 1, 4], 2 + 12 + 4, 1, 1, 1, 0)
        self.answers([2, 1, 0, 1, 0, 1, 1, 0], 0, 0, 0, 1)

    def test_of_the_densest_prefixes_the_longest_is_taken(self):
        # The order is the same with a shorter one, so that this is asked of the prefix itself.
        self.assertEqual(find_densest_prefix([(1, 2), (1, 0), (1, 4)]), (3, 6, 3))
        self.assertEqual(find_densest_prefix([(1, 2), (2, 4), (3, 5)]), (2, 6, 3))
        self.assertEqual(find_densest_prefix([(1, 0), (99, 0)]), (2, 0, 100))

    def test_a_chain_is_left_and_taken_up_again(self):
        self.answers([2, 1, 9, 1, 1, 1, 1, 5], 9 + 10 + 3, 0, 1, 0)
        self.answers([3, 1, 9, 1, 0, 1, 2, 1, 1, 5], 9 + 10 + 2 * 4, 0, 1, 0, 0)

    def test_a_heavy_job_draws_the_light_ones_before_it(self):
        self.answers([3, 1, 9, 9, 0, 1, 99, 1, 1, 9], 9 + 99 * 11 + 9 * 12, 0, 0, 0, 1)
        self.answers([3, 1, 9, 9, 0, 1, 99, 1, 1, 50], 50 + 9 * 2 + 99 * 12, 1, 0, 0, 0)

    def test_the_order_is_that_of_the_definition(self):
        for chains in list(small_chains()) + list(large_chains()):
            order = optimal_by_definition(chains)
            self.assertEqual(optimal_order(flat(chains)),
                             [cost_by_definition(chains, order)] + order, chains)

    def test_chains_outside_their_limits(self):
        for what, chains in OUTSIDE_LIMITS.items():
            with self.subTest(what):
                self.answers(chains, -22)


class Optimality(unittest.TestCase):
    def check(self, chains):
        answer = optimal_order(flat(chains))
        cost, order = answer[0], answer[1:]
        orders = list(all_orders(lengths_of(chains)))
        self.assertIn(order, orders, chains)
        self.assertEqual(total_cost(flat(chains), order), [cost], chains)
        self.assertEqual(cost, min(cost_by_definition(chains, other) for other in orders), chains)

    def test_no_order_of_small_chains_costs_less(self):
        for chains in small_chains():
            self.check(chains)

    def test_no_order_of_large_chains_costs_less(self):
        for chains in large_chains():
            self.check(chains)

    def test_the_smallest_cost_does_not_depend_on_the_numbers(self):
        for chains in list(small_chains()) + list(large_chains()):
            self.assertEqual(optimal_order(flat(chains))[0],
                             optimal_order(flat(chains[::-1]))[0], chains)


class OptimalOrderKeepsNothing(unittest.TestCase):
    def test_the_list_handed_in_is_not_changed(self):
        for chains in [EXAMPLE, [], [0, 0], [1, 100, 1], [2, 1, 1], [2, 1, 9, 1, 1, 1, 1, 5]]:
            guarded = Untouchable(chains)
            self.assertEqual(optimal_order(guarded), optimal_order(list(chains)))
            self.assertEqual(guarded, chains)

    def test_a_second_call_answers_as_the_first(self):
        first = optimal_order(EXAMPLE)
        kept = list(first)
        first.reverse()
        self.assertEqual(optimal_order([1, 100, 1]), [-22])
        self.assertEqual(optimal_order([1, 1, 1]), [1, 0])
        self.assertEqual(optimal_order(EXAMPLE), kept)

    def test_what_is_answered_is_made_anew(self):
        optimal_order([]).append(1)
        self.assertEqual(optimal_order([]), [0])
        optimal_order([1]).append(1)
        self.assertEqual(optimal_order([1]), [-22])

    def test_a_list_of_whole_numbers_is_answered(self):
        for chains in (EXAMPLE, [], [1], [1, 1, 0]):
            answer = optimal_order(chains)
            self.assertIs(type(answer), list)
            self.assertEqual({type(number) for number in answer}, {int})


if __name__ == "__main__":
    unittest.main()

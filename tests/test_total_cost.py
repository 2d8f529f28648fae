"""Point 1 of the operations: total_cost(chains, order)."""

import inspect
import unittest

from chainjobs.orders import total_cost
from tests.cases import (EXAMPLE, LARGEST, OUTSIDE_LIMITS, Untouchable, all_orders,
                         cost_by_definition, flat, large_chains, lengths_of, small_chains)


class TotalCostOfOrders(unittest.TestCase):
    def test_names_of_the_arguments(self):
        self.assertEqual(str(inspect.signature(total_cost)), "(chains, order)")
        self.assertEqual(total_cost(chains=EXAMPLE, order=[0, 0, 1]), [34])

    def test_orders_of_the_example(self):
        self.assertEqual(total_cost(EXAMPLE, [0, 0, 1]), [34])
        self.assertEqual(total_cost(EXAMPLE, [1, 0, 0]), [44])
        self.assertEqual(total_cost(EXAMPLE, [0, 1, 0]), [48])

    def test_no_chain(self):
        self.assertEqual(total_cost([], []), [0])

    def test_chains_without_jobs(self):
        self.assertEqual(total_cost([0], []), [0])
        self.assertEqual(total_cost([0, 0, 0, 0], []), [0])
        self.assertEqual(total_cost([0, 1, 5, 7, 0, 1, 2, 3], [3, 1]), [2 * 3 + 7 * 7])

    def test_four_chains(self):
        chains = [1, 1, 1, 1, 2, 2, 1, 3, 3, 1, 4, 4]
        self.assertEqual(total_cost(chains, [3, 2, 1, 0]), [16 + 21 + 18 + 10])

    def test_seven_jobs(self):
        self.assertEqual(total_cost([7] + [1, 1] * 7, [0] * 7), [28])
        self.assertEqual(total_cost([7] + [99, 99] * 7, [0] * 7), [99 * 99 * 28])
        self.assertEqual(total_cost([3] + [99, 99] * 3 + [4] + [99, 99] * 4, [1, 0, 1, 0, 1, 0, 1]),
                         [99 * 99 * 28])

    def test_least_and_greatest_durations_and_weights(self):
        self.assertEqual(total_cost([1, 1, 0], [0]), [0])
        self.assertEqual(total_cost([1, 99, 0], [0]), [0])
        self.assertEqual(total_cost([1, 1, 99], [0]), [99])
        self.assertEqual(total_cost([1, 99, 99], [0]), [9801])
        self.assertEqual(total_cost([1, 99, 0, 1, 1, 99], [0, 1]), [9900])

    def test_every_order_of_small_chains(self):
        for chains in small_chains():
            for order in all_orders(lengths_of(chains)):
                self.assertEqual(total_cost(flat(chains), order),
                                 [cost_by_definition(chains, order)], (chains, order))

    def test_orders_of_large_chains(self):
        for chains in large_chains():
            for order in all_orders(lengths_of(chains)):
                self.assertEqual(total_cost(flat(chains), order),
                                 [cost_by_definition(chains, order)], (chains, order))


class TotalCostRefuses(unittest.TestCase):
    def refuses(self, chains, order):
        self.assertEqual(total_cost(chains, order), [-22], (chains, order))

    def test_chains_outside_their_limits(self):
        for what, chains in OUTSIDE_LIMITS.items():
            for order in ([], [0], [0, 0], [0] * 8, [0, 1, 2, 3, 4]):
                with self.subTest(what, order=order):
                    self.refuses(chains, order)

    def test_an_order_that_fits_but_for_a_limit(self):
        self.refuses([0] * 5, [])
        self.refuses([1, 1, 1] * 5, [0, 1, 2, 3, 4])
        self.refuses([8] + [1, 1] * 8, [0] * 8)
        self.refuses([1, 100, 1], [0])
        self.refuses([1, 0, 1], [0])
        self.refuses([1, 1, 100], [0])

    def test_an_order_that_is_too_short(self):
        self.refuses(EXAMPLE, [0, 1])
        self.refuses(EXAMPLE, [0, 0])
        self.refuses(EXAMPLE, [])
        self.refuses([7] + [1, 1] * 7, [0] * 6)

    def test_an_order_that_is_too_long(self):
        self.refuses(EXAMPLE, [0, 0, 1, 1])
        self.refuses(EXAMPLE, [0, 0, 0, 1])
        self.refuses(EXAMPLE, [0, 0, 1] * 3)
        self.refuses([], [0])
        self.refuses([], [0] * 9)
        self.refuses([0], [0])
        self.refuses([7] + [1, 1] * 7, [0] * 8)

    def test_a_chain_that_does_not_exist(self):
        self.refuses(EXAMPLE, [0, 0, 2])
        self.refuses(EXAMPLE, [2, 0, 0])
        self.refuses(EXAMPLE, [0, 0, 1, 2])
        self.refuses(EXAMPLE, [0, 0, 4])
        self.refuses(EXAMPLE, [0, 0, LARGEST])
        self.refuses(EXAMPLE, [0, 0, 1, LARGEST])
        self.refuses([1, 1, 1], [LARGEST])
        self.refuses([1, 1, 1] * 4, [0, 1, 2, 4])

    def test_a_chain_too_often_or_too_seldom(self):
        self.refuses(EXAMPLE, [0, 1, 1])
        self.refuses(EXAMPLE, [0, 0, 0])
        self.refuses(EXAMPLE, [1, 1, 1])
        self.refuses([0, 1, 1, 1], [0])
        self.refuses([1, 1, 1, 0, 1, 1, 1], [0, 1])
        self.refuses([1, 1, 1] * 4, [0, 1, 2, 2])

    def test_every_list_that_is_no_order_of_the_example(self):
        orders = list(all_orders([2, 1]))
        for first in range(4):
            for second in range(4):
                for third in range(4):
                    order = [first, second, third]
                    if order not in orders:
                        self.refuses(EXAMPLE, order)


class TotalCostKeepsNothing(unittest.TestCase):
    def test_lists_handed_in_are_not_changed(self):
        for chains, order in [(EXAMPLE, [0, 1, 0]), (EXAMPLE, [0, 1]), (EXAMPLE, [0, 0, 2]),
                              ([], []), ([1, 100, 1], [0]), ([2, 1, 1], [0, 0])]:
            guarded, guarded_order = Untouchable(chains), Untouchable(order)
            answer = total_cost(guarded, guarded_order)
            self.assertEqual(answer, total_cost(list(chains), list(order)))
            self.assertEqual((guarded, guarded_order), (chains, order))

    def test_a_second_call_answers_as_the_first(self):
        first = total_cost(EXAMPLE, [0, 1, 0])
        kept = list(first)
        first.append(1)
        self.assertEqual(total_cost([1, 100, 1], [0]), [-22])
        self.assertEqual(total_cost([1, 1, 1], [0]), [1])
        self.assertEqual(total_cost(EXAMPLE, [0, 1, 0]), kept)

    def test_a_refusal_is_made_anew(self):
        total_cost(EXAMPLE, []).append(1)
        self.assertEqual(total_cost(EXAMPLE, []), [-22])

    def test_a_list_of_whole_numbers_is_answered(self):
        for answer in (total_cost(EXAMPLE, [0, 1, 0]), total_cost([], []), total_cost([1], [])):
            self.assertIs(type(answer), list)
            self.assertEqual([type(number) for number in answer], [int])


if __name__ == "__main__":
    unittest.main()

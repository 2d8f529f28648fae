"""What points 2 and 3 of the operations have in common: optimal_order and greedy_order.

Chains in which both find the same order are tried with both; each has its own
file for what only one of them does.
"""

import inspect
import unittest

from chainjobs.orders import greedy_order, optimal_order, total_cost
from tests.cases import (EXAMPLE, OUTSIDE_LIMITS, Untouchable, all_orders, cost_by_definition,
                         flat, greedy_by_definition, large_chains, lengths_of,
                         optimal_by_definition, single_jobs, small_chains)

BOTH = {"optimal_order": optimal_order, "greedy_order": greedy_order}

BY_DEFINITION = {"optimal_order": optimal_by_definition, "greedy_order": greedy_by_definition}


class OrdersInCommon(unittest.TestCase):
    def both_answer(self, chains, *answer):
        for name, operation in BOTH.items():
            with self.subTest(name, chains=chains):
                self.assertEqual(operation(chains), list(answer))

    def test_name_of_the_argument(self):
        for name, operation in BOTH.items():
            with self.subTest(name):
                self.assertEqual(str(inspect.signature(operation)), "(chains)")
                self.assertEqual(operation(chains=[1, 5, 7]), [35, 0])

    def test_no_chain(self):
        self.both_answer([], 0)

    def test_chains_without_jobs(self):
        self.both_answer([0], 0)
        self.both_answer([0, 0, 0, 0], 0)
        self.both_answer([0, 1, 5, 7], 35, 1)
        self.both_answer([1, 5, 7, 0, 0, 0], 35, 0)
        self.both_answer([0, 1, 5, 0], 0, 1)
        self.both_answer([0, 1, 1, 1, 0, 1, 1, 2], 4, 3, 1)

    def test_four_chains(self):
        self.both_answer([1, 1, 1, 1, 1, 2, 1, 1, 3, 1, 1, 4], 20, 3, 2, 1, 0)

    def test_seven_jobs(self):
        self.both_answer([7] + [1, 1] * 7, 28, 0, 0, 0, 0, 0, 0, 0)
        self.both_answer([7] + [99, 99] * 7, 274428, 0, 0, 0, 0, 0, 0, 0)
        self.both_answer([3] + [1, 1] * 3 + [4] + [1, 2] * 4, 38, 1, 1, 1, 1, 0, 0, 0)

    def test_least_and_greatest_durations_and_weights(self):
        self.both_answer([1, 1, 0], 0, 0)
        self.both_answer([1, 99, 99], 9801, 0)
        self.both_answer([1, 99, 0, 1, 1, 99], 99, 1, 0)
        self.both_answer([1, 99, 1, 1, 99, 0, 1, 98, 1, 1, 1, 99], 99 + 99 + 198, 3, 2, 0, 1)

    def test_the_ratio_counts_and_not_weight_or_duration_alone(self):
        self.both_answer([1, 9, 10, 1, 1, 2], 2 + 100, 1, 0)
        self.both_answer([1, 2, 9, 1, 1, 2], 18 + 6, 0, 1)

    def test_ratios_that_differ_by_very_little(self):
        # 97 / 98 is less than 98 / 99.
        self.both_answer([1, 98, 97, 1, 99, 98], 98 * 99 + 97 * 197, 1, 0)
        self.both_answer([1, 99, 98, 1, 98, 97], 98 * 99 + 97 * 197, 0, 1)

    def test_the_first_chain_in_a_tie(self):
        self.both_answer([1, 1, 1] * 4, 10, 0, 1, 2, 3)
        self.both_answer([1, 4, 2, 1, 2, 1, 1, 6, 3], 8 + 6 + 36, 0, 1, 2)
        self.both_answer([1, 3, 1, 1, 6, 3, 1, 2, 1], 18 + 8 + 11, 1, 2, 0)
        self.both_answer([1, 3, 0, 1, 1, 0, 1, 2, 0], 0, 0, 1, 2)

    def test_the_order_is_that_of_the_definition(self):
        for chains in list(small_chains()) + list(large_chains()) + list(single_jobs()):
            for name, operation in BOTH.items():
                order = BY_DEFINITION[name](chains)
                self.assertEqual(operation(flat(chains)),
                                 [cost_by_definition(chains, order)] + order, (name, chains))

    def test_an_order_of_the_jobs_and_its_cost(self):
        for chains in list(small_chains()) + list(large_chains()):
            orders = list(all_orders(lengths_of(chains)))
            for name, operation in BOTH.items():
                answer = operation(flat(chains))
                self.assertIn(answer[1:], orders, (name, chains))
                self.assertEqual(total_cost(flat(chains), answer[1:]), answer[:1], (name, chains))

    def test_chains_outside_their_limits(self):
        for what, chains in OUTSIDE_LIMITS.items():
            with self.subTest(what):
                self.both_answer(chains, -22)


class NothingIsKept(unittest.TestCase):
    def test_the_list_handed_in_is_not_changed(self):
        for name, operation in BOTH.items():
            for chains in [EXAMPLE, [], [0, 0], [1, 100, 1], [2, 1, 1], [2, 1, 9, 1, 1, 1, 1, 5]]:
                guarded = Untouchable(chains)
                self.assertEqual(operation(guarded), operation(list(chains)), name)
                self.assertEqual(guarded, chains, name)

    def test_a_second_call_answers_as_the_first(self):
        for name, operation in BOTH.items():
            with self.subTest(name):
                first = operation(EXAMPLE)
                kept = list(first)
                first.reverse()
                self.assertEqual(operation([1, 100, 1]), [-22])
                self.assertEqual(operation([1, 1, 1]), [1, 0])
                self.assertEqual(operation(EXAMPLE), kept)

    def test_one_does_not_change_what_the_other_answers(self):
        for _ in range(2):
            self.assertEqual(greedy_order(EXAMPLE), [44, 1, 0, 0])
            self.assertEqual(optimal_order(EXAMPLE), [34, 0, 0, 1])

    def test_what_is_answered_is_made_anew(self):
        for name, operation in BOTH.items():
            with self.subTest(name):
                operation([]).append(1)
                self.assertEqual(operation([]), [0])
                operation([1]).append(1)
                self.assertEqual(operation([1]), [-22])

    def test_a_list_of_whole_numbers_is_answered(self):
        for name, operation in BOTH.items():
            for chains in (EXAMPLE, [], [1], [1, 1, 0]):
                answer = operation(chains)
                self.assertIs(type(answer), list, name)
                self.assertEqual({type(number) for number in answer}, {int}, name)


if __name__ == "__main__":
    unittest.main()

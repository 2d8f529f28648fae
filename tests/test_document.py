"""What the document says over the whole program: its interface, its examples, its requirements."""

import inspect
import unittest
from itertools import permutations

from chainjobs import orders
from chainjobs.orders import (completion_times, count_orders, densest_prefix, greedy_order,
                              optimal_order, total_cost)
from tests.cases import (EXAMPLE, INTERFACE, OUTSIDE_LIMITS, Untouchable, all_orders, every_kind,
                         flat, lengths_of, single_jobs)

FIT = {"chains": EXAMPLE, "order": [0, 1, 0], "chain": 0, "first": 0, "second": 1}


class Interface(unittest.TestCase):
    def test_every_function_has_the_arguments_of_the_document(self):
        for name, arguments in INTERFACE.items():
            parameters = inspect.signature(getattr(orders, name)).parameters.values()
            self.assertEqual([parameter.name for parameter in parameters], arguments, name)
            for parameter in parameters:
                self.assertIs(parameter.default, parameter.empty, name)
                self.assertIs(parameter.kind, parameter.POSITIONAL_OR_KEYWORD, name)

    def test_chains_outside_their_limits_are_refused_by_every_function(self):
        for name, arguments in INTERFACE.items():
            for what, chains in OUTSIDE_LIMITS.items():
                fit = [chains if argument == "chains" else FIT[argument] for argument in arguments]
                self.assertEqual(getattr(orders, name)(*fit), [-22], (name, what))

    def test_only_an_error_has_a_number_below_0(self):
        for name, arguments in INTERFACE.items():
            answer = getattr(orders, name)(*[FIT[argument] for argument in arguments])
            self.assertGreaterEqual(min(answer), 0, name)

    def test_no_function_changes_what_another_one_answers(self):
        calls = [(getattr(orders, name), [FIT[argument] for argument in arguments])
                 for name, arguments in INTERFACE.items()]
        first = [operation(*handed_in) for operation, handed_in in calls]
        self.assertEqual([operation(*handed_in) for operation, handed_in in calls[::-1]],
                         first[::-1])


class Examples(unittest.TestCase):
    def setUp(self):
        self.chains = Untouchable([2, 1, 0, 1, 9, 1, 2, 4])

    def test_optimal_order(self):
        self.assertEqual(optimal_order(self.chains), [34, 0, 0, 1])

    def test_greedy_order(self):
        self.assertEqual(greedy_order(self.chains), [44, 1, 0, 0])

    def test_densest_prefix(self):
        self.assertEqual(densest_prefix(0, self.chains), [2, 9, 2])

    def test_completion_times(self):
        self.assertEqual(completion_times(self.chains, [0, 1, 0]), [3, 1, 3, 4])

    def test_count_orders(self):
        self.assertEqual(count_orders(self.chains), [3])

    def test_total_cost(self):
        self.assertEqual(total_cost(self.chains, [0, 1]), [-22])


class Requirements(unittest.TestCase):
    """Points 1 to 4, each asked of the functions together."""

    def test_no_order_has_a_smaller_cost_than_the_optimal_order(self):
        for chains in every_kind():
            numbers = flat(chains)
            costs = [total_cost(numbers, order)[0] for order in all_orders(lengths_of(chains))]
            self.assertEqual(optimal_order(numbers)[0], min(costs), chains)
            self.assertEqual(count_orders(numbers), [len(costs)], chains)

    def test_greedy_and_optimal_order_cost_the_same_for_single_jobs(self):
        kinds = [chains for chains in every_kind() if max(lengths_of(chains), default=0) <= 1]
        for chains in kinds + list(single_jobs()):
            numbers = flat(chains)
            self.assertEqual(greedy_order(numbers)[0], optimal_order(numbers)[0], chains)

    def test_the_smallest_cost_does_not_depend_on_the_numbers_of_the_chains(self):
        for chains in every_kind():
            costs = {optimal_order(flat(turned))[0] for turned in permutations(chains)}
            self.assertEqual(len(costs), 1, chains)

    def test_every_job_is_done_once_and_the_last_one_after_all_durations(self):
        for chains in every_kind():
            numbers = flat(chains)
            durations = [duration for jobs in chains for duration, _ in jobs]
            for operation in (optimal_order, greedy_order):
                order = operation(numbers)[1:]
                self.assertEqual([order.count(chain) for chain in range(len(chains))],
                                 lengths_of(chains), chains)
                times = completion_times(numbers, order)
                self.assertEqual(times[0], len(durations), chains)
                self.assertEqual(len(times[1:]), len(durations), chains)
                self.assertEqual(([0] + times[1:])[-1], sum(durations), chains)


if __name__ == "__main__":
    unittest.main()

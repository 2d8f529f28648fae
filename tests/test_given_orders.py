"""What points 1 and 5 of the operations have in common: total_cost and completion_times.

Both are given an order and refuse the same; each has its own file for what it answers.
"""

import unittest
from itertools import product

from chainjobs.orders import completion_times, total_cost
from tests.cases import (EXAMPLE, LARGEST, NO_ORDERS, OUTSIDE_LIMITS, Untouchable, all_orders)

BOTH = {"total_cost": total_cost, "completion_times": completion_times}


class OrdersRefused(unittest.TestCase):
    def both_refuse(self, chains, order):
        for name, operation in BOTH.items():
            self.assertEqual(operation(chains, order), [-22], (name, chains, order))

    def test_chains_outside_their_limits(self):
        for what, chains in OUTSIDE_LIMITS.items():
            for order in ([], [0], [0, 0], [0] * 8, [0, 1, 2, 3, 4], [4], [LARGEST] * 9):
                with self.subTest(what, order=order):
                    self.both_refuse(chains, order)

    def test_an_order_that_fits_but_for_a_limit(self):
        self.both_refuse([0] * 5, [])
        self.both_refuse([1, 1, 1] * 5, [0, 1, 2, 3, 4])
        self.both_refuse([8] + [1, 1] * 8, [0] * 8)
        self.both_refuse([1, 100, 1], [0])
        self.both_refuse([1, 0, 1], [0])
        self.both_refuse([1, 1, 100], [0])

    def test_a_list_that_is_no_order(self):
        for what, cases in NO_ORDERS.items():
            for chains, order in cases:
                with self.subTest(what, chains=chains, order=order):
                    self.both_refuse(chains, order)

    def test_every_list_that_is_no_order_of_the_example(self):
        orders = list(all_orders([2, 1]))
        for length in range(5):
            for order in product(range(4), repeat=length):
                if list(order) not in orders:
                    self.both_refuse(EXAMPLE, list(order))


class NothingIsKept(unittest.TestCase):
    def test_lists_handed_in_are_not_changed(self):
        for name, operation in BOTH.items():
            for chains, order in [(EXAMPLE, [0, 1, 0]), (EXAMPLE, [0, 1]), (EXAMPLE, [0, 0, 2]),
                                  ([], []), ([1, 100, 1], [0]), ([2, 1, 1], [0, 0]),
                                  ([7] + [1, 1] * 7, [0] * 7)]:
                guarded, guarded_order = Untouchable(chains), Untouchable(order)
                self.assertEqual(operation(guarded, guarded_order),
                                 operation(list(chains), list(order)), name)
                self.assertEqual((guarded, guarded_order), (chains, order), name)

    def test_a_second_call_answers_as_the_first(self):
        for name, operation in BOTH.items():
            with self.subTest(name):
                first = operation(EXAMPLE, [0, 1, 0])
                kept = list(first)
                first.append(1)
                self.assertEqual(operation([1, 100, 1], [0]), [-22])
                self.assertEqual(operation([1, 1, 1], [0])[-1], 1)
                self.assertEqual(operation(EXAMPLE, [0, 1, 0]), kept)

    def test_what_is_answered_is_made_anew(self):
        for name, operation in BOTH.items():
            with self.subTest(name):
                operation(EXAMPLE, []).append(1)
                self.assertEqual(operation(EXAMPLE, []), [-22])
                operation([], []).append(1)
                self.assertEqual(operation([], []), [0])

    def test_a_list_of_whole_numbers_is_answered(self):
        for name, operation in BOTH.items():
            for chains, order in ((EXAMPLE, [0, 1, 0]), ([], []), ([1], [])):
                answer = operation(chains, order)
                self.assertIs(type(answer), list, name)
                self.assertEqual({type(number) for number in answer}, {int}, name)


if __name__ == "__main__":
    unittest.main()

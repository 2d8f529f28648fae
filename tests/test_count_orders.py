"""Point 6 of the operations: count_orders(chains)."""

import inspect
import unittest
from itertools import product

from chainjobs.orders import count_orders, total_cost
from tests.cases import (EXAMPLE, OUTSIDE_LIMITS, Untouchable, all_orders, all_shapes, every_kind,
                         flat, lengths_of)


def alike(shape):
    """Write chains with that many jobs, all of them alike."""
    return flat([[(1, 1)] * length for length in shape])


class CountOrders(unittest.TestCase):
    def answers(self, chains, count):
        self.assertEqual(count_orders(chains), [count], chains)

    def test_name_of_the_argument(self):
        self.assertEqual(str(inspect.signature(count_orders)), "(chains)")
        self.assertEqual(count_orders(chains=EXAMPLE), [3])

    def test_the_example(self):
        self.answers(EXAMPLE, 3)
        self.answers([1, 2, 4, 2, 1, 0, 1, 9], 3)

    def test_no_chain(self):
        self.answers([], 1)

    def test_chains_without_jobs(self):
        self.answers([0], 1)
        self.answers([0, 0, 0, 0], 1)
        self.answers(alike([0, 2, 0, 1]), 3)
        self.answers(alike([2, 0, 0, 2]), 6)
        self.answers(alike([0, 7, 0, 0]), 1)

    def test_a_single_chain_has_one_order(self):
        for length in range(8):
            self.answers(alike([length]), 1)

    def test_four_chains(self):
        self.answers(alike([1, 1, 1, 1]), 24)
        self.answers(alike([2, 1, 1, 1]), 60)
        self.answers(alike([1, 1, 1, 2]), 60)

    def test_seven_jobs(self):
        self.answers(alike([6, 1]), 7)
        self.answers(alike([1, 6]), 7)
        self.answers(alike([5, 2]), 21)
        self.answers(alike([3, 4]), 35)
        self.answers(alike([2, 2, 3]), 210)
        self.answers(alike([4, 1, 1, 1]), 210)
        self.answers(alike([3, 2, 1, 1]), 420)
        self.answers(alike([2, 2, 2, 1]), 630)

    def test_least_and_greatest_durations_and_weights(self):
        for job in ((1, 0), (1, 99), (99, 0), (99, 99)):
            self.answers(flat([[job] * 2, [job] * 3]), 10)

    def test_jobs_that_are_alike_are_still_of_their_own_chains(self):
        self.answers([1, 1, 1, 1, 1, 1], 2)
        self.answers([1, 1, 1, 1, 2, 2], 2)

    def test_the_orders_counted_one_by_one(self):
        counts = {tuple(shape): len(list(all_orders(shape))) for shape in all_shapes()}
        for chains in every_kind():
            self.answers(flat(chains), counts[tuple(lengths_of(chains))])

    def test_the_lists_that_total_cost_takes_for_orders(self):
        for shape in all_shapes():
            if sum(shape) <= 5:
                chains = alike(shape)
                lists = product(range(len(shape)), repeat=sum(shape))
                taken = [order for order in lists if total_cost(chains, list(order)) != [-22]]
                self.answers(chains, len(taken))


class CountOrdersRefuses(unittest.TestCase):
    def test_chains_outside_their_limits(self):
        for what, chains in OUTSIDE_LIMITS.items():
            with self.subTest(what):
                self.assertEqual(count_orders(chains), [-22])


class CountOrdersKeepsNothing(unittest.TestCase):
    def test_the_list_handed_in_is_not_changed(self):
        for chains in [EXAMPLE, [], [0, 0], [1, 100, 1], [2, 1, 1], alike([2, 2, 2, 1])]:
            guarded = Untouchable(chains)
            self.assertEqual(count_orders(guarded), count_orders(list(chains)))
            self.assertEqual(guarded, chains)

    def test_a_second_call_answers_as_the_first(self):
        first = count_orders(EXAMPLE)
        kept = list(first)
        first.append(1)
        self.assertEqual(count_orders([1, 100, 1]), [-22])
        self.assertEqual(count_orders(alike([1, 1])), [2])
        self.assertEqual(count_orders(EXAMPLE), kept)

    def test_what_is_answered_is_made_anew(self):
        count_orders([]).append(1)
        self.assertEqual(count_orders([]), [1])
        count_orders([1]).append(1)
        self.assertEqual(count_orders([1]), [-22])

    def test_a_list_of_whole_numbers_is_answered(self):
        for chains in (EXAMPLE, [], [1]):
            answer = count_orders(chains)
            self.assertIs(type(answer), list)
            self.assertEqual([type(number) for number in answer], [int])


if __name__ == "__main__":
    unittest.main()

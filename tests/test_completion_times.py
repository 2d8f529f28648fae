"""Point 5 of the operations: completion_times(chains, order), and that every job is done once."""

import inspect
import unittest

from chainjobs.orders import completion_times
from tests.cases import (EXAMPLE, all_orders, every_kind, flat, large_chains, lengths_of,
                         small_chains, times_by_definition)


class CompletionTimes(unittest.TestCase):
    def answers(self, chains, order, *answer):
        self.assertEqual(completion_times(chains, order), list(answer), (chains, order))

    def test_names_of_the_arguments(self):
        self.assertEqual(str(inspect.signature(completion_times)), "(chains, order)")
        self.assertEqual(completion_times(chains=EXAMPLE, order=[0, 0, 1]), [3, 1, 2, 4])

    def test_orders_of_the_example(self):
        self.answers(EXAMPLE, [0, 1, 0], 3, 1, 3, 4)
        self.answers(EXAMPLE, [0, 0, 1], 3, 1, 2, 4)
        self.answers(EXAMPLE, [1, 0, 0], 3, 2, 3, 4)

    def test_no_chain(self):
        self.answers([], [], 0)

    def test_chains_without_jobs(self):
        self.answers([0], [], 0)
        self.answers([0, 0, 0, 0], [], 0)
        self.answers([0, 1, 5, 7, 0, 1, 2, 3], [3, 1], 2, 2, 7)
        self.answers([0, 0, 0, 1, 5, 7], [3], 1, 5)
        self.answers([1, 5, 7, 0, 0, 0], [0], 1, 5)

    def test_four_chains(self):
        chains = [1, 1, 1, 1, 2, 2, 1, 3, 3, 1, 4, 4]
        self.answers(chains, [0, 1, 2, 3], 4, 1, 3, 6, 10)
        self.answers(chains, [3, 2, 1, 0], 4, 4, 7, 9, 10)
        self.answers(chains, [2, 0, 3, 1], 4, 3, 4, 8, 10)

    def test_the_times_stand_in_the_order_and_not_in_that_of_the_chains(self):
        chains = [2, 5, 1, 6, 1, 1, 7, 1]
        self.answers(chains, [0, 0, 1], 3, 5, 11, 18)
        self.answers(chains, [0, 1, 0], 3, 5, 12, 18)
        self.answers(chains, [1, 0, 0], 3, 7, 12, 18)

    def test_seven_jobs_in_one_chain(self):
        self.answers([7, 1, 1, 2, 1, 3, 1, 4, 1, 5, 1, 6, 1, 7, 1], [0] * 7,
                     7, 1, 3, 6, 10, 15, 21, 28)
        self.answers([7, 7, 1, 6, 1, 5, 1, 4, 1, 3, 1, 2, 1, 1, 1], [0] * 7,
                     7, 7, 13, 18, 22, 25, 27, 28)

    def test_seven_jobs_spread_over_four_chains(self):
        chains = [2, 1, 0, 2, 0, 2, 10, 0, 20, 0, 2, 3, 0, 4, 0, 1, 50, 0]
        self.answers(chains, [0, 0, 1, 1, 2, 2, 3], 7, 1, 3, 13, 33, 36, 40, 90)
        self.answers(chains, [3, 2, 1, 0, 2, 1, 0], 7, 50, 53, 63, 64, 68, 88, 90)
        self.answers([1, 1, 0, 0, 5, 2, 0, 3, 0, 4, 0, 5, 0, 6, 0, 1, 7, 0], [2, 3, 2, 0, 2, 2, 2],
                     7, 2, 9, 12, 13, 17, 22, 28)

    def test_least_and_greatest_durations(self):
        self.answers([1, 1, 0], [0], 1, 1)
        self.answers([1, 99, 0], [0], 1, 99)
        self.answers([2, 1, 1, 99, 1], [0, 0], 2, 1, 100)
        self.answers([7] + [1, 99] * 7, [0] * 7, 7, 1, 2, 3, 4, 5, 6, 7)
        self.answers([7] + [99, 1] * 7, [0] * 7, 7, 99, 198, 297, 396, 495, 594, 693)

    def test_weights_do_not_count(self):
        for weight in (0, 1, 99):
            self.answers([2, 3, weight, 4, 0, 1, 5, weight], [0, 1, 0], 3, 3, 8, 12)

    def test_every_order_of_small_and_large_chains(self):
        for chains in list(small_chains()) + list(large_chains()):
            for order in all_orders(lengths_of(chains)):
                self.answers(flat(chains), order, len(order), *times_by_definition(chains, order))


class Completion(unittest.TestCase):
    def test_every_job_is_done_once_and_the_last_one_after_all_durations(self):
        for chains in every_kind():
            durations = sorted(duration for jobs in chains for duration, _ in jobs)
            for order in all_orders(lengths_of(chains)):
                answer = completion_times(flat(chains), order)
                starts, times = [0] + answer[1:-1], answer[1:]
                self.assertEqual(answer[0], len(durations), (chains, order))
                self.assertEqual(sorted(time - start for start, time in zip(starts, times)),
                                 durations, (chains, order))
                self.assertEqual(([0] + times)[-1], sum(durations), (chains, order))


if __name__ == "__main__":
    unittest.main()

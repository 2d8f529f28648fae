"""Point 7 of the operations: cost_after_swap(first, second, chains), and the symmetry."""

import inspect
import unittest
from itertools import product

from chainjobs.orders import cost_after_swap, optimal_order
from tests.cases import (EXAMPLE, LARGEST, OUTSIDE_LIMITS, Untouchable, cost_by_definition,
                         every_kind, flat, large_chains, optimal_by_definition, small_chains)


def pairs_of(chains):
    """Go through any two chains, the same one twice among them."""
    return product(range(len(chains)), repeat=2)


def exchanged(chains, first, second):
    """Write the chains with each other's number."""
    numbers = list(range(len(chains)))
    numbers[first], numbers[second] = second, first
    return [chains[number] for number in numbers]


class CostAfterSwap(unittest.TestCase):
    def answers(self, first, second, chains, cost):
        self.assertEqual(cost_after_swap(first, second, chains), [cost], (first, second, chains))

    def all_answer(self, chains, cost):
        """Check the swaps of any two of four chains."""
        for first, second in product(range(4), repeat=2):
            self.answers(first, second, chains, cost)

    def test_names_of_the_arguments(self):
        self.assertEqual(str(inspect.signature(cost_after_swap)), "(first, second, chains)")
        self.assertEqual(cost_after_swap(first=0, second=1, chains=EXAMPLE), [34])

    def test_the_example(self):
        self.answers(0, 1, EXAMPLE, 34)
        self.answers(1, 0, EXAMPLE, 34)

    def test_the_same_chain_twice(self):
        self.answers(0, 0, EXAMPLE, 34)
        self.answers(1, 1, EXAMPLE, 34)
        self.answers(0, 0, [1, 5, 7], 35)
        self.answers(3, 3, [1, 1, 1, 1, 1, 2, 1, 1, 3, 1, 1, 4], 20)

    def test_the_cost_of_the_optimal_order_and_not_of_the_greedy_one(self):
        self.answers(0, 1, [2, 1, 1, 1, 99, 1, 1, 2], 1 + 198 + 6)
        self.answers(1, 0, [1, 1, 2, 2, 1, 1, 1, 99], 1 + 198 + 6)

    def test_four_chains(self):
        self.all_answer([1, 1, 1, 1, 1, 2, 1, 1, 3, 1, 1, 4], 4 + 6 + 6 + 4)

    def test_the_first_and_the_last_chain(self):
        chains = [2, 1, 0, 1, 9, 1, 3, 1, 0, 1, 2, 4]
        self.answers(0, 3, chains, 9 * 2 + 4 * 4 + 7)
        self.answers(3, 0, chains, 9 * 2 + 4 * 4 + 7)

    def test_chains_without_jobs(self):
        self.answers(0, 0, [0], 0)
        self.answers(0, 1, [0, 0], 0)
        self.all_answer([0, 0, 0, 0], 0)
        self.all_answer([0, 1, 5, 7, 0, 0], 35)
        self.all_answer([2, 1, 0, 1, 9, 0, 0, 1, 2, 4], 34)

    def test_seven_jobs(self):
        self.answers(0, 0, [7] + [1, 1] * 7, 28)
        self.answers(0, 0, [7] + [99, 99] * 7, 274428)
        self.answers(0, 1, [3] + [1, 1] * 3 + [4] + [1, 2] * 4, 2 * 10 + 18)
        self.all_answer([0, 0, 0, 7] + [1, 1] * 7, 28)
        self.all_answer([2, 1, 1, 1, 1, 2, 1, 2, 1, 2, 2, 1, 3, 1, 3, 1, 1, 4],
                        4 + 3 * 5 + 2 * 9 + 13)

    def test_a_prefix_of_six_jobs_beside_another_chain(self):
        self.answers(0, 1, [6] + [1, 0] * 5 + [1, 99, 1, 1, 1], 99 * 6 + 7)
        self.answers(0, 1, [1, 1, 1, 6] + [1, 0] * 5 + [1, 7], 7 * 6 + 7)

    def test_least_and_greatest_durations_and_weights(self):
        self.answers(0, 0, [1, 1, 0], 0)
        self.answers(0, 0, [1, 99, 99], 9801)
        self.answers(0, 1, [1, 99, 0, 1, 1, 99], 99)
        self.answers(0, 1, [1, 99, 99, 1, 99, 99], 99 * 99 * 3)
        self.answers(0, 1, [1, 99, 0, 1, 1, 0], 0)
        self.all_answer([1, 99, 1, 1, 99, 0, 1, 98, 1, 1, 1, 99], 99 + 99 + 198)

    def test_ties_that_the_swap_turns_round(self):
        self.answers(0, 1, [1, 1, 1, 1, 2, 2], 1 + 6)
        self.answers(0, 1, [1, 4, 2, 1, 2, 1, 1, 6, 3], 8 + 6 + 36)
        self.answers(0, 2, [1, 4, 2, 1, 2, 1, 1, 6, 3], 8 + 6 + 36)
        self.answers(0, 1, [2, 1, 1, 1, 3, 1, 1, 2], 1 + 6 + 6)
        self.answers(0, 1, [1, 3, 0, 1, 1, 0], 0)
        self.all_answer([1, 1, 1] * 4, 10)

    def test_any_two_of_small_and_large_chains(self):
        for chains in list(small_chains()) + list(large_chains()):
            for first, second in pairs_of(chains):
                swapped = exchanged(chains, first, second)
                self.answers(first, second, flat(chains),
                             cost_by_definition(swapped, optimal_by_definition(swapped)))


class Symmetry(unittest.TestCase):
    def test_a_swap_of_any_two_chains_does_not_change_the_smallest_cost(self):
        for chains in list(every_kind()) + list(small_chains()) + list(large_chains()):
            least = optimal_order(flat(chains))[:1]
            for first, second in pairs_of(chains):
                self.assertEqual(cost_after_swap(first, second, flat(chains)), least,
                                 (first, second, chains))


class CostAfterSwapRefuses(unittest.TestCase):
    def refuses(self, code, first, second, chains):
        self.assertEqual(cost_after_swap(first, second, chains), [code], (first, second, chains))

    def refuses_on_either_side(self, code, fit, unfit, chains):
        """Check the number that is unfit as the first, as the second, and as both."""
        self.refuses(code, unfit, fit, chains)
        self.refuses(code, fit, unfit, chains)
        self.refuses(code, unfit, unfit, chains)

    def test_a_chain_that_does_not_exist(self):
        for unfit in (2, 3, 4, 5, 255, 256, 65536, 2147483648, LARGEST - 1, LARGEST):
            self.refuses_on_either_side(-2, 0, unfit, EXAMPLE)
            self.refuses_on_either_side(-2, 1, unfit, EXAMPLE)

    def test_the_number_of_chains(self):
        for count in range(1, 5):
            for fit in range(count):
                self.refuses_on_either_side(-2, fit, count, [1, 1, 1] * count)
                self.refuses_on_either_side(-2, fit, count, [0] * count)
        self.refuses_on_either_side(-2, 0, 1, [7] + [1, 1] * 7)

    def test_two_chains_that_do_not_exist(self):
        self.refuses(-2, 2, 3, EXAMPLE)
        self.refuses(-2, LARGEST, 2, EXAMPLE)

    def test_no_chain_exists(self):
        for first, second in product((0, 1, 4, LARGEST), repeat=2):
            self.refuses(-2, first, second, [])

    def test_chains_outside_their_limits(self):
        # The first of these numbers are those of chains in some of them.
        for what, chains in OUTSIDE_LIMITS.items():
            for first, second in product((0, 1, 3, 4, 5, 25, LARGEST), repeat=2):
                with self.subTest(what, first=first, second=second):
                    self.refuses(-22, first, second, chains)

    def test_the_limits_come_before_a_chain_that_does_not_exist(self):
        for unfit in (1, 5, LARGEST):
            self.refuses_on_either_side(-22, 0, unfit, [1, 100, 1])
            self.refuses_on_either_side(-22, 0, unfit, [8] + [1, 1] * 8)
            self.refuses_on_either_side(-22, 0, unfit, [1, 1])
        self.refuses_on_either_side(-22, 4, 5, [0] * 5)

    def test_the_limits_count_for_chains_that_are_not_swapped(self):
        self.refuses(-22, 0, 1, [1, 1, 1, 1, 1, 1, 1, 0, 1])
        self.refuses(-22, 0, 0, [1, 1, 1, 1, 1, 100])
        self.refuses(-22, 0, 1, [1, 1, 1] * 5)


class CostAfterSwapKeepsNothing(unittest.TestCase):
    def test_the_list_handed_in_is_not_changed(self):
        for chains in [EXAMPLE, [], [0, 0], [1, 100, 1, 0], [2, 1, 1], [1, 1, 1] * 4]:
            for first, second in ((0, 1), (1, 0), (1, 1), (0, LARGEST)):
                guarded = Untouchable(chains)
                self.assertEqual(cost_after_swap(first, second, guarded),
                                 cost_after_swap(first, second, list(chains)))
                self.assertEqual(guarded, chains)

    def test_a_second_call_answers_as_the_first(self):
        first = cost_after_swap(0, 1, EXAMPLE)
        kept = list(first)
        first.append(1)
        self.assertEqual(cost_after_swap(0, 0, [1, 100, 1]), [-22])
        self.assertEqual(cost_after_swap(0, 1, [1, 1, 1]), [-2])
        self.assertEqual(cost_after_swap(0, 0, [1, 1, 1]), [1])
        self.assertEqual(cost_after_swap(0, 1, EXAMPLE), kept)

    def test_a_swap_is_forgotten(self):
        chains = list(EXAMPLE)
        for _ in range(2):
            cost_after_swap(0, 1, chains)
            self.assertEqual(optimal_order(chains), [34, 0, 0, 1])

    def test_what_is_answered_is_made_anew(self):
        for chains in ([1], [], [0]):
            first = cost_after_swap(0, 0, chains)
            kept = list(first)
            first.append(1)
            self.assertEqual(cost_after_swap(0, 0, chains), kept)

    def test_a_list_of_whole_numbers_is_answered(self):
        for chains in (EXAMPLE, [1, 1, 0], [1], [], [0]):
            answer = cost_after_swap(0, 0, chains)
            self.assertIs(type(answer), list)
            self.assertEqual([type(number) for number in answer], [int])


if __name__ == "__main__":
    unittest.main()

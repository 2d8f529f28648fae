"""Point 4 of the operations: densest_prefix(chain, chains)."""

import inspect
import unittest

from chainjobs.orders import densest_prefix
from tests.cases import (EXAMPLE, LARGEST, OUTSIDE_LIMITS, Untouchable,
                         densest_length_by_definition, flat, large_chains, small_chains)


class DensestPrefix(unittest.TestCase):
    def answers(self, chain, chains, *answer):
        self.assertEqual(densest_prefix(chain, chains), list(answer), (chain, chains))

    def test_names_of_the_arguments(self):
        self.assertEqual(str(inspect.signature(densest_prefix)), "(chain, chains)")
        self.assertEqual(densest_prefix(chain=0, chains=EXAMPLE), [2, 9, 2])

    def test_the_example(self):
        self.answers(0, EXAMPLE, 2, 9, 2)
        self.answers(1, EXAMPLE, 1, 4, 2)

    def test_each_of_four_chains(self):
        chains = [1, 1, 2, 2, 3, 4, 5, 6, 2, 7, 8, 9, 0, 2, 11, 0, 13, 14]
        self.answers(0, chains, 1, 2, 1)
        self.answers(1, chains, 1, 4, 3)
        self.answers(2, chains, 1, 8, 7)
        self.answers(3, chains, 2, 14, 24)

    def test_between_chains_without_jobs(self):
        self.answers(1, [0, 2, 1, 0, 1, 9, 0, 0], 2, 9, 2)
        self.answers(3, [0, 0, 0, 1, 5, 7], 1, 7, 5)

    def test_seven_jobs(self):
        self.answers(0, [7] + [1, 1] * 7, 7, 7, 7)
        self.answers(0, [7] + [99, 99] * 7, 7, 693, 693)
        self.answers(0, [7] + [99, 0] * 7, 7, 0, 693)
        self.answers(0, [7] + [1, 1] * 6 + [1, 0], 6, 6, 6)
        self.answers(0, [7] + [1, 0] * 6 + [1, 1], 7, 1, 7)
        self.answers(1, [1, 1, 1, 6] + [2, 1] * 5 + [1, 3], 6, 8, 11)

    def test_least_and_greatest_durations_and_weights(self):
        self.answers(0, [1, 1, 0], 1, 0, 1)
        self.answers(0, [1, 1, 99], 1, 99, 1)
        self.answers(0, [1, 99, 0], 1, 0, 99)
        self.answers(0, [1, 99, 99], 1, 99, 99)

    def test_a_denser_prefix_before_and_behind_others(self):
        self.answers(0, [3, 1, 9, 1, 8, 1, 7], 1, 9, 1)
        self.answers(0, [3, 1, 7, 1, 8, 1, 9], 3, 24, 3)
        self.answers(0, [3, 1, 7, 1, 9, 1, 7], 2, 16, 2)
        # The second prefix is less dense than the first one, the third denser than both.
        self.answers(0, [3, 1, 2, 1, 0, 1, 9], 3, 11, 3)
        # The last job is denser than the one before it, but no prefix is as the first job.
        self.answers(0, [3, 1, 9, 1, 0, 1, 5], 1, 9, 1)

    def test_the_density_counts_and_not_weight_or_duration_alone(self):
        self.answers(0, [2, 1, 5, 9, 40], 1, 5, 1)
        self.answers(0, [2, 9, 40, 1, 5], 2, 45, 10)

    def test_densities_that_differ_by_very_little(self):
        # 98 / 99 is more than 97 / 98, and both together lie between them.
        self.answers(0, [2, 98, 97, 99, 98], 2, 195, 197)
        self.answers(0, [2, 99, 98, 98, 97], 1, 98, 99)

    def test_of_the_densest_prefixes_the_longest_is_taken(self):
        self.answers(0, [2, 1, 1, 1, 1], 2, 2, 2)
        self.answers(0, [3, 1, 2, 1, 0, 1, 4], 3, 6, 3)
        self.answers(0, [3, 1, 2, 2, 4, 3, 5], 2, 6, 3)
        self.answers(0, [2, 1, 0, 99, 0], 2, 0, 100)
        self.answers(0, [4, 3, 1, 6, 2, 9, 3, 1, 0], 3, 6, 18)
        self.answers(1, [1, 1, 1, 5, 2, 2, 1, 0, 1, 2, 1, 0, 3, 2], 3, 4, 4)

    def test_other_chains_do_not_count(self):
        self.answers(0, [2, 1, 1, 1, 0, 3] + [1, 99] * 3, 1, 1, 1)
        self.answers(1, [3] + [1, 99] * 3 + [2, 1, 1, 1, 0], 1, 1, 1)

    def test_every_prefix_is_that_of_the_definition(self):
        for chains in list(small_chains()) + list(large_chains()):
            for chain, jobs in enumerate(chains):
                if jobs:
                    length = densest_length_by_definition(jobs)[1]
                    self.answers(chain, flat(chains), length,
                                 sum(weight for _, weight in jobs[:length]),
                                 sum(duration for duration, _ in jobs[:length]))


class DensestPrefixRefuses(unittest.TestCase):
    def refuses(self, code, chain, chains):
        self.assertEqual(densest_prefix(chain, chains), [code], (chain, chains))

    def test_a_chain_that_does_not_exist(self):
        for chain in (2, 3, 4, 5, 255, 256, 65536, 2147483648, LARGEST - 1, LARGEST):
            self.refuses(-2, chain, EXAMPLE)
        self.refuses(-2, 1, [1, 1, 1])
        self.refuses(-2, 4, [1, 1, 1] * 4)
        self.refuses(-2, 7, [7] + [1, 1] * 7)

    def test_no_chain_exists(self):
        for chain in (0, 1, LARGEST):
            self.refuses(-2, chain, [])

    def test_a_chain_that_does_not_exist_beside_chains_without_jobs(self):
        self.refuses(-2, 1, [0])
        self.refuses(-2, 4, [0, 0, 0, 0])
        self.refuses(-2, 2, [1, 1, 1, 0])
        self.refuses(-2, LARGEST, [0])

    def test_a_chain_without_jobs(self):
        self.refuses(-6, 0, [0])
        for chain in range(4):
            self.refuses(-6, chain, [0, 0, 0, 0])
        self.refuses(-6, 0, [0, 1, 1, 1])
        self.refuses(-6, 1, [1, 1, 1, 0])
        self.refuses(-6, 1, [1, 1, 1, 0, 6] + [1, 1] * 6)

    def test_chains_outside_their_limits(self):
        # In some of them the chain has jobs, in some it has none or doesn't exist.
        for what, chains in OUTSIDE_LIMITS.items():
            for chain in (0, 1, 3, 4, 5, 25, LARGEST):
                with self.subTest(what, chain=chain):
                    self.refuses(-22, chain, chains)

    def test_the_limits_come_before_a_chain_that_does_not_exist(self):
        for chain in (1, 2, 5, LARGEST):
            self.refuses(-22, chain, [1, 100, 1])
            self.refuses(-22, chain, [8] + [1, 1] * 8)
            self.refuses(-22, chain, [1, 1])
        self.refuses(-22, 5, [0] * 5)

    def test_the_limits_come_before_a_chain_without_jobs(self):
        self.refuses(-22, 0, [0] * 5)
        self.refuses(-22, 4, [1, 1, 1] * 4 + [0])
        self.refuses(-22, 0, [0, 1, 0, 1])
        self.refuses(-22, 0, [0, 1, 100, 1])
        self.refuses(-22, 0, [0, 1, 1, 100])
        self.refuses(-22, 1, [1, 1, 100, 0])
        self.refuses(-22, 0, [0, 8] + [1, 1] * 8)
        self.refuses(-22, 0, [0, 1, 1])

    def test_the_limits_come_before_a_chain_that_is_fit_itself(self):
        self.refuses(-22, 0, [1, 1, 1, 1, 0, 1])
        self.refuses(-22, 0, [1, 1, 1, 1, 1, 100])
        self.refuses(-22, 0, [1, 1, 1] * 5)
        self.refuses(-22, 0, [1, 1, 1, 2, 1, 1])


class DensestPrefixKeepsNothing(unittest.TestCase):
    def test_the_list_handed_in_is_not_changed(self):
        for chains in [EXAMPLE, [], [0, 0], [1, 100, 1], [2, 1, 1], [7] + [1, 1] * 7]:
            for chain in (0, 1, LARGEST):
                guarded = Untouchable(chains)
                self.assertEqual(densest_prefix(chain, guarded),
                                 densest_prefix(chain, list(chains)))
                self.assertEqual(guarded, chains)

    def test_a_second_call_answers_as_the_first(self):
        first = densest_prefix(0, EXAMPLE)
        kept = list(first)
        first.reverse()
        self.assertEqual(densest_prefix(0, [1, 100, 1]), [-22])
        self.assertEqual(densest_prefix(1, [1, 1, 1]), [-2])
        self.assertEqual(densest_prefix(0, [0]), [-6])
        self.assertEqual(densest_prefix(1, EXAMPLE), [1, 4, 2])
        self.assertEqual(densest_prefix(0, EXAMPLE), kept)

    def test_a_refusal_is_made_anew(self):
        for chain, chains in ((0, [1]), (0, []), (0, [0])):
            first = densest_prefix(chain, chains)
            kept = list(first)
            first.append(1)
            self.assertEqual(densest_prefix(chain, chains), kept)

    def test_a_list_of_whole_numbers_is_answered(self):
        for chain, chains in ((0, EXAMPLE), (0, [1, 1, 0]), (0, [1]), (0, []), (0, [0])):
            answer = densest_prefix(chain, chains)
            self.assertIs(type(answer), list)
            self.assertEqual({type(number) for number in answer}, {int})


if __name__ == "__main__":
    unittest.main()

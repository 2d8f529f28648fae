"""What the tests share: chains to try, and answers found straight from the definitions.

Here chains are written job by job: [[(duration, weight), ..], ..].
"""

from fractions import Fraction
from itertools import cycle, product

# Chain 0 has the jobs (1, 0) and (1, 9), chain 1 has the job (2, 4).
EXAMPLE = [2, 1, 0, 1, 9, 1, 2, 4]

LARGEST = 4294967295

# The functions of chainjobs.orders, each with the names of its arguments.
INTERFACE = {
    "total_cost": ["chains", "order"],
    "optimal_order": ["chains"],
    "greedy_order": ["chains"],
    "densest_prefix": ["chain", "chains"],
    "completion_times": ["chains", "order"],
    "count_orders": ["chains"],
    "cost_after_swap": ["first", "second", "chains"],
}

OUTSIDE_LIMITS = {
    "5 chains": [1, 1, 1] * 5,
    "5 chains without jobs": [0] * 5,
    "5 chains, the last without jobs": [1, 1, 1] * 4 + [0],
    "25 chains without jobs": [0] * 25,
    "8 jobs in one chain": [8] + [1, 1] * 8,
    "8 jobs in two chains": [4] + [1, 1] * 4 + [4] + [1, 1] * 4,
    "8 jobs in four chains": ([2] + [1, 1] * 2) * 4,
    "12 jobs, 25 numbers": [12] + [1, 1] * 12,
    "a duration of 0": [1, 0, 1],
    "a duration of 100": [1, 100, 1],
    "a duration of 0 in a later chain": [1, 1, 1, 0, 2, 1, 1, 0, 1],
    "a duration of 100 in a later job": [3, 1, 1, 1, 1, 100, 1],
    "a weight of 100": [1, 1, 100],
    "a weight of 100 in a later chain": [1, 1, 1, 1, 1, 100],
    "a weight of 100 in a later job": [2, 1, 1, 1, 100],
    "a count without its jobs": [1],
    "a job without its weight": [1, 1],
    "a chain that lacks a job": [2, 1, 1],
    "a chain that lacks half a job": [2, 1, 1, 1],
    "a later chain that lacks its jobs": [1, 1, 1, 1],
    "a later chain that lacks a weight": [1, 1, 1, 0, 1, 5],
    "a duration taken for a count": [1, 1, 1, 5, 3],
    "the largest count": [LARGEST],
    "the largest count before a job": [LARGEST, 1, 1],
    "the largest count behind a chain": [1, 1, 1, LARGEST],
    "a count of 2147483648": [2147483648, 1, 1],
    "the largest duration": [1, LARGEST, 1],
    "a duration of 257": [1, 257, 1],
    "the largest weight": [1, 1, LARGEST],
    "a weight of 256": [1, 1, 256],
    "the largest number everywhere": [LARGEST] * 25,
}

# For each way in which a list is no order of the jobs: the chains, then such lists.
NO_ORDERS = {
    "too short": [
        (EXAMPLE, [0, 1]), (EXAMPLE, [0, 0]), (EXAMPLE, []),
        ([7] + [1, 1] * 7, [0] * 6), ([1, 1, 1], []),
    ],
    "too long": [
        (EXAMPLE, [0, 0, 1, 1]), (EXAMPLE, [0, 0, 0, 1]), (EXAMPLE, [0, 0, 1] * 3),
        ([], [0]), ([], [0] * 9), ([0], [0]), ([7] + [1, 1] * 7, [0] * 8),
    ],
    "with a chain that does not exist": [
        (EXAMPLE, [0, 0, 2]), (EXAMPLE, [2, 0, 0]), (EXAMPLE, [0, 0, 1, 2]), (EXAMPLE, [0, 0, 4]),
        (EXAMPLE, [0, 0, LARGEST]), (EXAMPLE, [0, 0, 1, LARGEST]), (EXAMPLE, [LARGEST] * 9),
        (EXAMPLE, [0, 0, 256]), (EXAMPLE, [0, 0, 257]), (EXAMPLE, [0, 2147483648, 1]),
        ([1, 1, 1], [LARGEST]), ([], [LARGEST]), ([0], [LARGEST]), ([1, 1, 1] * 4, [0, 1, 2, 4]),
    ],
    "with a chain too often or too seldom": [
        (EXAMPLE, [0, 1, 1]), (EXAMPLE, [0, 0, 0]), (EXAMPLE, [1, 1, 1]),
        ([0, 1, 1, 1], [0]), ([1, 1, 1, 0, 1, 1, 1], [0, 1]), ([1, 1, 1] * 4, [0, 1, 2, 2]),
    ],
}


class Untouchable(list):
    """A list that may be read, but fails as soon as it is changed."""

    def refuse(self, *args, **kwargs):
        raise AssertionError("a list that was handed in is changed")

    __setitem__ = __delitem__ = __iadd__ = __imul__ = refuse
    append = clear = extend = insert = pop = remove = reverse = sort = refuse


def flat(chain_jobs):
    """Write chains as the program takes them."""
    numbers = []
    for jobs in chain_jobs:
        numbers.append(len(jobs))
        for job in jobs:
            numbers.extend(job)
    return numbers


def lengths_of(chain_jobs):
    return [len(jobs) for jobs in chain_jobs]


def all_orders(lengths):
    """Go through every order of chains with that many jobs."""
    if not any(lengths):
        yield []
    for chain, length in enumerate(lengths):
        if length:
            rest = lengths[:chain] + [length - 1] + lengths[chain + 1:]
            for order in all_orders(rest):
                yield [chain] + order


def done_by_definition(chain_jobs, order):
    """Give the jobs as they are done: each number of a chain stands for its next job."""
    walks = [iter(jobs) for jobs in chain_jobs]
    return [next(walks[chain]) for chain in order]


def times_by_definition(chain_jobs, order):
    """Give the completion times: for each job all durations up to its own."""
    durations = [duration for duration, _ in done_by_definition(chain_jobs, order)]
    return [sum(durations[:place + 1]) for place in range(len(durations))]


def cost_by_definition(chain_jobs, order):
    """Give the cost: the sum of each job's weight times its completion time."""
    return sum(weight * time for (_, weight), time in
               zip(done_by_definition(chain_jobs, order), times_by_definition(chain_jobs, order)))


def densest_length_by_definition(jobs):
    """Give the density and the length of the densest prefix, as a pair."""
    return max((Fraction(sum(weight for _, weight in jobs[:length]),
                         sum(duration for duration, _ in jobs[:length])), length)
               for length in range(1, len(jobs) + 1))


def optimal_by_definition(chain_jobs):
    """Give the optimal order as the section Terms tells it."""
    rest = [list(jobs) for jobs in chain_jobs]
    order = []
    while any(rest):
        found = [(densest_length_by_definition(jobs), chain)
                 for chain, jobs in enumerate(rest) if jobs]
        greatest = max(density for (density, _), _ in found)
        length, chain = next((length, chain) for (density, length), chain in found
                             if density == greatest)
        order += [chain] * length
        rest[chain] = rest[chain][length:]
    return order


def greedy_by_definition(chain_jobs):
    """Give the greedy order as the section Terms tells it."""
    rest = [list(jobs) for jobs in chain_jobs]
    order = []
    while any(rest):
        ratios = [Fraction(jobs[0][1], jobs[0][0]) if jobs else -1 for jobs in rest]
        chain = ratios.index(max(ratios))
        order.append(chain)
        rest[chain].pop(0)
    return order


def single_jobs():
    """Go through up to 4 chains of at most one job each."""
    jobs = [[]] + [[job] for job in ((1, 0), (1, 1), (1, 99), (2, 2), (3, 2), (99, 0), (99, 98))]
    for count in range(5):
        for chains in product(jobs, repeat=count):
            yield list(chains)


def small_chains():
    """Go through all chains of at most 3 jobs with a few durations and weights."""
    shapes = [shape for count in range(4) for shape in product(range(4), repeat=count)
              if sum(shape) <= 3]
    jobs = list(product((1, 2), (0, 1, 4)))
    for shape in shapes:
        for chosen in product(jobs, repeat=sum(shape)):
            walk = iter(chosen)
            yield [[next(walk) for _ in range(length)] for length in shape]


def mixed_jobs(top):
    """Go on through jobs of durations from 1 to top and weights from 0 to top."""
    state = 1
    while True:
        state = state * 1103515245 % 2147483648 + 12345
        yield (state // 65536 % top + 1, state // 8192 % (top + 1))


def all_shapes():
    """Go through the numbers of jobs of all chains within the limits."""
    for count in range(5):
        for shape in product(range(8), repeat=count):
            if sum(shape) <= 7:
                yield list(shape)


def every_kind():
    """Go through chains of every shape, with least, greatest, tied and mixed jobs."""
    walks = [cycle([(1, 0)]), cycle([(1, 99)]), cycle([(99, 0)]), cycle([(99, 99)]),
             cycle([(1, 1), (2, 2), (1, 0), (1, 2), (3, 3)]), mixed_jobs(3), mixed_jobs(99)]
    for shape in all_shapes():
        for walk in walks:
            yield [[next(walk) for _ in range(length)] for length in shape]


def large_chains():
    """Go through chains of 6 or 7 jobs, with numbers small enough to tie and large ones."""
    shapes = [[7], [6, 1], [3, 4], [2, 5], [3, 0, 4], [2, 2, 3], [1, 5, 1], [2, 1, 2, 2],
              [1, 1, 1, 4], [0, 3, 0, 3], [4, 1, 1, 1], [1, 3, 2, 1]]
    walks = {top: mixed_jobs(top) for top in (2, 3, 99)}
    for shape in shapes:
        for top in (2, 3, 99, 99):
            yield [[next(walks[top]) for _ in range(length)] for length in shape]

"""What the tests share: chains to try, and answers found straight from the definitions.

Here chains are written job by job: [[(duration, weight), ..], ..].
"""

from fractions import Fraction
from itertools import product

# Chain 0 has the jobs (1, 0) and (1, 9), chain 1 has the job (2, 4).
EXAMPLE = [2, 1, 0, 1, 9, 1, 2, 4]

LARGEST = 4294967295

OUTSIDE_LIMITS = {
    "5 chains": [1, 1, 1] * 5,
    "5 chains without jobs": [0] * 5,
    "5 chains, the last without jobs": [1, 1, 1] * 4 + [0],
    "25 chains without jobs": [0] * 25,
    "8 jobs in one chain": [8] + [1, 1] * 8,
    "8 jobs in two chains": [4] + [1, 1] * 4 + [4] + [1, 1] * 4,
    "8 jobs in four chains": ([2] + [1, 1] * 2) * 4,
    "12 jobs, 25 numbers": [12] + [1, 1] * 12,
    "a duration of 0": [1, 0, 1],
    "a duration of 100": [1, 100, 1],
    "a duration of 0 in a later chain": [1, 1, 1, 0, 2, 1, 1, 0, 1],
    "a duration of 100 in a later job": [3, 1, 1, 1, 1, 100, 1],
    "a weight of 100": [1, 1, 100],
    "a weight of 100 in a later chain": [1, 1, 1, 1, 1, 100],
    "a weight of 100 in a later job": [2, 1, 1, 1, 100],
    "a count without its jobs": [1],
    "a job without its weight": [1, 1],
    "a chain that lacks a job": [2, 1, 1],
    "a chain that lacks half a job": [2, 1, 1, 1],
    "a later chain that lacks its jobs": [1, 1, 1, 1],
    "a later chain that lacks a weight": [1, 1, 1, 0, 1, 5],
    "a duration taken for a count": [1, 1, 1, 5, 3],
    "the largest count": [LARGEST],
    "the largest count before a job": [LARGEST, 1, 1],
    "the largest count behind a chain": [1, 1, 1, LARGEST],
    "a count of 2147483648": [2147483648, 1, 1],
    "the largest duration": [1, LARGEST, 1],
    "a duration of 257": [1, 257, 1],
    "the largest weight": [1, 1, LARGEST],
    "a weight of 256": [1, 1, 256],
    "the largest number everywhere": [LARGEST] * 25,
}


class Untouchable(list):
    """A list that may be read, but fails as soon as it is changed."""

    def refuse(self, *args, **kwargs):
        raise AssertionError("a list that was handed in is changed")

    __setitem__ = __delitem__ = __iadd__ = __imul__ = refuse
    append = clear = extend = insert = pop = remove = reverse = sort = refuse


def flat(chain_jobs):
    """Write chains as the program takes them."""
    numbers = []
    for jobs in chain_jobs:
        numbers.append(len(jobs))
        for job in jobs:
            numbers.extend(job)
    return numbers


def lengths_of(chain_jobs):
    return [len(jobs) for jobs in chain_jobs]


def all_orders(lengths):
    """Go through every order of chains with that many jobs."""
    if not any(lengths):
        yield []
    for chain, length in enumerate(lengths):
        if length:
            rest = lengths[:chain] + [length - 1] + lengths[chain + 1:]
            for order in all_orders(rest):
                yield [chain] + order


def cost_by_definition(chain_jobs, order):
    """Give the cost: each job's weight times all durations up to its own."""
    walks = [iter(jobs) for jobs in chain_jobs]
    done = [next(walks[chain]) for chain in order]
    return sum(weight * sum(duration for duration, _ in done[:place + 1])
               for place, (_, weight) in enumerate(done))


def densest_length_by_definition(jobs):
    """Give the density and the length of the densest prefix, as a pair."""
    return max((Fraction(sum(weight for _, weight in jobs[:length]),
                         sum(duration for duration, _ in jobs[:length])), length)
               for length in range(1, len(jobs) + 1))


def optimal_by_definition(chain_jobs):
    """Give the optimal order as the section Terms tells it."""
    rest = [list(jobs) for jobs in chain_jobs]
    order = []
    while any(rest):
        found = [(densest_length_by_definition(jobs), chain)
                 for chain, jobs in enumerate(rest) if jobs]
        greatest = max(density for (density, _), _ in found)
        length, chain = next((length, chain) for (density, length), chain in found
                             if density == greatest)
        order += [chain] * length
        rest[chain] = rest[chain][length:]
    return order


def greedy_by_definition(chain_jobs):
    """Give the greedy order as the section Terms tells it."""
    rest = [list(jobs) for jobs in chain_jobs]
    order = []
    while any(rest):
        ratios = [Fraction(jobs[0][1], jobs[0][0]) if jobs else -1 for jobs in rest]
        chain = ratios.index(max(ratios))
        order.append(chain)
        rest[chain].pop(0)
    return order


def single_jobs():
    """Go through up to 4 chains of at most one job each."""
    jobs = [[]] + [[job] for job in ((1, 0), (1, 1), (1, 99), (2, 2), (3, 2), (99, 0), (99, 98))]
    for count in range(5):
        for chains in product(jobs, repeat=count):
            yield list(chains)


def small_chains():
    """Go through all chains of at most 3 jobs with a few durations and weights."""
    shapes = [shape for count in range(4) for shape in product(range(4), repeat=count)
              if sum(shape) <= 3]
    jobs = list(product((1, 2), (0, 1, 4)))
    for shape in shapes:
        for chosen in product(jobs, repeat=sum(shape)):
            walk = iter(chosen)
            yield [[next(walk) for _ in range(length)] for length in shape]


def large_chains():
    """Go through chains of 6 or 7 jobs, with numbers small enough to tie and large ones."""
    shapes = [[7], [6, 1], [3, 4], [2, 5], [3, 0, 4], [2, 2, 3], [1, 5, 1], [2, 1, 2, 2],
              [1, 1, 1, 4], [0, 3, 0, 3], [4, 1, 1, 1], [1, 3, 2, 1]]
    state = 1
    for shape in shapes:
        for top in (2, 3, 99, 99):
            chains = []
            for length in shape:
                jobs = []
                for _ in range(length):
                    state = state * 1103515245 % 2147483648 + 12345
                    jobs.append((state // 65536 % top + 1, state // 8192 % (top + 1)))
                chains.append(jobs)
            yield chains

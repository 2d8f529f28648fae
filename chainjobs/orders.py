"""Orders of jobs that lie in chains, and what these orders cost.

Inside this module a job is a tuple (duration, weight), and `chain_jobs`
is a list that holds for each chain the list of its jobs.
"""

MAX_CHAINS = 4
MAX_JOBS = 7
MAX_DURATION = 99
MAX_WEIGHT = 99

NO_SUCH_CHAIN = -2
CHAIN_WITHOUT_JOBS = -6
OUTSIDE_LIMITS = -22


def total_cost(chains, order):
    """Answer [cost] of the order, or [-22]."""
    chain_jobs = read_chains(chains)
    if chain_jobs is None or not is_order(chain_jobs, order):
        return [OUTSIDE_LIMITS]
    return [cost_of_order(chain_jobs, order)]


def optimal_order(chains):
    """Answer [cost, chain, chain, ..] of the optimal order, or [-22]."""
    return cost_and_order(chains, MAX_JOBS)


def greedy_order(chains):
    """Answer [cost, chain, chain, ..] of the greedy order, or [-22]."""
    # The ratio of a job is the density of the prefix that is this job alone.
    return cost_and_order(chains, 1)


def densest_prefix(chain, chains):
    """Answer [length, weight, duration] of the chain's densest prefix, or [-22], [-2] or [-6]."""
    chain_jobs = read_chains(chains)
    if chain_jobs is None:
        return [OUTSIDE_LIMITS]
    if chain >= len(chain_jobs):
        return [NO_SUCH_CHAIN]
    if len(chain_jobs[chain]) == 0:
        return [CHAIN_WITHOUT_JOBS]
    return list(find_densest_prefix(chain_jobs[chain]))


def completion_times(chains, order):
    """Answer [job_count, time, time, ..] of the order, or [-22]."""
    chain_jobs = read_chains(chains)
    if chain_jobs is None or not is_order(chain_jobs, order):
        return [OUTSIDE_LIMITS]
    return [len(order)] + times_of_jobs(jobs_in_order(chain_jobs, order))


def count_orders(chains):
    """Answer [count] of all orders of the jobs, or [-22]."""
    chain_jobs = read_chains(chains)
    if chain_jobs is None:
        return [OUTSIDE_LIMITS]
    return [number_of_orders(chain_jobs)]


def cost_after_swap(first, second, chains):
    """Answer [cost] of the optimal order with the two chains exchanged, or [-22] or [-2]."""
    chain_jobs = read_chains(chains)
    if chain_jobs is None:
        return [OUTSIDE_LIMITS]
    if first >= len(chain_jobs) or second >= len(chain_jobs):
        return [NO_SUCH_CHAIN]
    swapped = swap_chains(chain_jobs, first, second)
    return [cost_of_order(swapped, find_order(swapped, MAX_JOBS))]


def cost_and_order(chains, longest):
    """Answer the order of find_order with its cost before it, or [-22]."""
    chain_jobs = read_chains(chains)
    if chain_jobs is None:
        return [OUTSIDE_LIMITS]
    order = find_order(chain_jobs, longest)
    return [cost_of_order(chain_jobs, order)] + order


def read_chains(numbers):
    """Give the jobs of each chain, or None if the list is outside its limits."""
    chain_jobs = []
    place = 0
    while place < len(numbers):
        end = place + 1 + 2 * numbers[place]
        if end > len(numbers):
            return None
        chain_jobs.append(read_jobs(numbers[place + 1:end]))
        place = end
    if not are_within_limits(chain_jobs):
        return None
    return chain_jobs


def read_jobs(numbers):
    """Give the jobs that stand one behind another in the list."""
    return [(numbers[k], numbers[k + 1]) for k in range(0, len(numbers), 2)]


def are_within_limits(chain_jobs):
    """Tell whether there are not too many chains and jobs, each job with fit numbers."""
    if len(chain_jobs) > MAX_CHAINS or number_of_jobs(chain_jobs) > MAX_JOBS:
        return False
    for jobs in chain_jobs:
        for duration, weight in jobs:
            if not 1 <= duration <= MAX_DURATION or not 0 <= weight <= MAX_WEIGHT:
                return False
    return True


def number_of_jobs(chain_jobs):
    """Give the number of jobs of all chains together."""
    return sum([len(jobs) for jobs in chain_jobs])


def number_of_orders(chain_jobs):
    """Give the number of ways to merge the chains into one order."""
    count = 1
    job_count = 0
    for jobs in chain_jobs:
        for length in range(1, len(jobs) + 1):
            job_count += 1
            # No remainder is lost: the first `length` jobs of a chain multiply the count
            # by the number of ways to choose their places among the job_count so far.
            count = count * job_count // length
    return count


def swap_chains(chain_jobs, first, second):
    """Give the chains as they are if the two have each other's number."""
    swapped = list(chain_jobs)
    swapped[first] = chain_jobs[second]
    swapped[second] = chain_jobs[first]
    return swapped


def is_order(chain_jobs, order):
    """Tell whether the order has each chain as often as it has jobs, and nothing else."""
    # With the right length and the right count of each chain there is no room
    # for the number of a chain that does not exist.
    if len(order) != number_of_jobs(chain_jobs):
        return False
    for chain, jobs in enumerate(chain_jobs):
        if order.count(chain) != len(jobs):
            return False
    return True


def jobs_in_order(chain_jobs, order):
    """Give all jobs in the order in which they are done."""
    done = [0] * len(chain_jobs)
    jobs = []
    for chain in order:
        jobs.append(chain_jobs[chain][done[chain]])
        done[chain] += 1
    return jobs


def times_of_jobs(jobs):
    """Give the completion time of each job, if they are done one behind another."""
    times = []
    completion = 0
    for job in jobs:
        completion += job[0]
        times.append(completion)
    return times


def cost_of_order(chain_jobs, order):
    """Give the sum of weight times completion time over all jobs."""
    jobs = jobs_in_order(chain_jobs, order)
    cost = 0
    for job, completion in zip(jobs, times_of_jobs(jobs)):
        cost += job[1] * completion
    return cost


def find_order(chain_jobs, longest):
    """Give the order that always does the densest prefix of at most `longest` jobs next."""
    job_count = number_of_jobs(chain_jobs)
    remaining = list(chain_jobs)
    order = []
    while len(order) < job_count:
        prefixes = [find_densest_prefix(jobs[:longest]) for jobs in remaining]
        chain = find_densest_chain(prefixes)
        length = prefixes[chain][0]
        order.extend([chain] * length)
        remaining[chain] = remaining[chain][length:]
    return order


def find_densest_chain(prefixes):
    """Give the first chain with the densest prefix; a chain without jobs has None there."""
    best_chain = None
    for chain, prefix in enumerate(prefixes):
        if prefix is not None:
            # A tie changes nothing, so that the first chain stays the best.
            if best_chain is None or compare_density(prefix, prefixes[best_chain]) > 0:
                best_chain = chain
    return best_chain


def find_densest_prefix(jobs):
    """Give (length, weight, duration) of the densest prefix, or None if there are no jobs."""
    best_prefix = None
    total_weight = 0
    total_duration = 0
    for length, job in enumerate(jobs, start=1):
        total_duration += job[0]
        total_weight += job[1]
        prefix = (length, total_weight, total_duration)
        # A tie counts for the later prefix, as the longest is wanted.
        if best_prefix is None or compare_density(prefix, best_prefix) >= 0:
            best_prefix = prefix
    return best_prefix


def compare_density(prefix, other):
    """Give a number above, at or below 0 if the prefix is denser, as dense or less dense."""
    # Cross products instead of quotients: whole numbers make every tie exact.
    return prefix[1] * other[2] - other[1] * prefix[2]

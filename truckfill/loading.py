"""Loadings of pallets onto trucks of equal length: heuristics, fewest trucks, bounds, smallest capacity."""

MIN_CAPACITY = 1
MAX_CAPACITY = 100
MAX_LENGTH = 100
MAX_PALLETS = 7
MAX_TRUCK = 99

NO_ERROR = 0
THRESHOLD_TOO_LARGE = -2
OUT_OF_RANGE = -22
TOO_LONG = -33
NO_SUCH_CAPACITY = -33


def first_fit(capacity, lengths):
    """Answer the number of trucks and the truck of each pallet, or an error code alone."""
    error = loading_error(capacity, lengths)
    if error != NO_ERROR:
        return [error]
    return load_in_order(capacity, lengths, list(range(len(lengths))))


def first_fit_decreasing(capacity, lengths):
    """Answer as first_fit does, but with the longest pallets loaded first."""
    error = loading_error(capacity, lengths)
    if error != NO_ERROR:
        return [error]
    return load_in_order(capacity, lengths, decreasing_order(lengths))


def minimal_assignment(capacity, lengths):
    """Answer the fewest trucks and the first assignment with so few, or an error code alone."""
    error = loading_error(capacity, lengths)
    if error != NO_ERROR:
        return [error]
    # The number of trucks stands first, so the least list has the fewest trucks
    # and, of those with so few, the lexicographically first assignment.
    return min([[len(loads)] + assignment for loads, assignment in feasible_loadings(capacity, lengths)])


def lower_bounds(capacity, lengths):
    """Answer the length bound and the greatest threshold bound, or an error code alone."""
    error = loading_error(capacity, lengths)
    if error != NO_ERROR:
        return [error]
    bounds = [bound_at_threshold(capacity, threshold, lengths) for threshold in range(capacity // 2 + 1)]
    return [trucks_for_length(sum(lengths), capacity), max(bounds)]


def threshold_bound(capacity, threshold, lengths):
    """Answer the bound on the number of trucks at this threshold, or an error code alone."""
    error = loading_error(capacity, lengths)
    if error != NO_ERROR:
        return [error]
    if 2 * threshold > capacity:
        return [THRESHOLD_TOO_LARGE]
    return [bound_at_threshold(capacity, threshold, lengths)]


def is_feasible(capacity, lengths, assignment):
    """Answer 1 if no truck is loaded above its capacity, 0 if one is, or an error code alone."""
    error = loading_error(capacity, lengths)
    if error != NO_ERROR:
        return [error]
    if not assignment_in_range(assignment, len(lengths)):
        return [OUT_OF_RANGE]
    return [1 if max(truck_loads(lengths, assignment)) <= capacity else 0]


def min_capacity(truck_limit, lengths):
    """Answer the smallest capacity with which so many trucks are enough, or an error code alone."""
    if not lengths_in_range(lengths):
        return [OUT_OF_RANGE]
    loadings = feasible_loadings(MAX_CAPACITY, lengths)
    # The fullest truck of a loading tells the smallest capacity that it needs.
    capacities = [max(loads, default=MIN_CAPACITY) for loads, assignment in loadings if len(loads) <= truck_limit]
    return [min(capacities, default=NO_SUCH_CAPACITY)]


def loading_error(capacity, lengths):
    """Answer the code of the first error that is due, or NO_ERROR."""
    if not capacity_in_range(capacity) or not lengths_in_range(lengths):
        return OUT_OF_RANGE
    for length in lengths:
        if length > capacity:
            return TOO_LONG
    return NO_ERROR


def capacity_in_range(capacity):
    """Tell whether a truck may have this length."""
    return capacity >= MIN_CAPACITY and capacity <= MAX_CAPACITY


def lengths_in_range(lengths):
    """Tell whether there are not too many pallets and each may have its length."""
    if len(lengths) > MAX_PALLETS:
        return False
    for length in lengths:
        if length < 1 or length > MAX_LENGTH:
            return False
    return True


def assignment_in_range(assignment, pallets):
    """Tell whether each of so many pallets has a truck that may be named."""
    if len(assignment) != pallets:
        return False
    for truck in assignment:
        if truck > MAX_TRUCK:
            return False
    return True


def decreasing_order(lengths):
    """Answer the pallet numbers, the longest pallet first."""
    # The pallet number stands second in the key so that pallets of the same
    # length keep the order of their index.
    return sorted(range(len(lengths)), key=lambda pallet: (-lengths[pallet], pallet))


def load_in_order(capacity, lengths, order):
    """Load the pallets in the given order by first fit; answer truck count and assignment."""
    loads = []
    assignment = [0] * len(lengths)
    for pallet in order:
        # The first of these trucks is where first fit puts the pallet.
        truck = trucks_with_space(capacity, loads, lengths[pallet])[0]
        loads = loads_with_pallet(loads, truck, lengths[pallet])
        assignment[pallet] = truck
    return [len(loads)] + assignment


def feasible_loadings(capacity, lengths):
    """Answer the loads and the assignment of every feasible canonical assignment."""
    loadings = [([], [])]
    for length in lengths:
        longer = []
        for loads, assignment in loadings:
            for truck in trucks_with_space(capacity, loads, length):
                longer.append((loads_with_pallet(loads, truck, length), assignment + [truck]))
        loadings = longer
    return loadings


def trucks_with_space(capacity, loads, length):
    """Answer the trucks on which the pallet fits, in order; the last is the next new one."""
    trucks = [truck for truck, load in enumerate(loads) if load + length <= capacity]
    return trucks + [len(loads)]


def loads_with_pallet(loads, truck, length):
    """Answer a copy of the loads with the pallet on the truck, which may be the next new one."""
    fuller = list(loads)
    if truck == len(fuller):
        fuller.append(0)
    fuller[truck] = fuller[truck] + length
    return fuller


def truck_loads(lengths, assignment):
    """Answer the load of each truck that may be named, also of those without pallets."""
    loads = [0] * (MAX_TRUCK + 1)
    for pallet, truck in enumerate(assignment):
        loads[truck] = loads[truck] + lengths[pallet]
    return loads


def bound_at_threshold(capacity, threshold, lengths):
    """Answer the threshold bound, for a threshold of at most half the capacity."""
    large = [length for length in lengths if length > capacity - threshold]
    medium = [length for length in lengths if length <= capacity - threshold and 2 * length > capacity]
    small = [length for length in lengths if threshold <= length and 2 * length <= capacity]
    space = len(medium) * capacity - sum(medium)
    return len(large) + len(medium) + trucks_for_length(max(0, sum(small) - space), capacity)


def trucks_for_length(length, capacity):
    """Answer how many trucks the length would fill if it could be cut: the quotient, rounded up."""
    return (length + capacity - 1) // capacity

"""What the test files share: inputs, and what the document asks of an assignment."""

from fractions import Fraction
from functools import cache
from itertools import product
from math import ceil

from truckfill.loading import (
    first_fit,
    first_fit_decreasing,
    is_feasible,
    lower_bounds,
    min_capacity,
    minimal_assignment,
    threshold_bound,
)

GREATEST = 4294967295

HEURISTICS = (first_fit, first_fit_decreasing)
ASSIGNING = HEURISTICS + (minimal_assignment,)
PARAMETERS = {
    first_fit: ["capacity", "lengths"],
    first_fit_decreasing: ["capacity", "lengths"],
    minimal_assignment: ["capacity", "lengths"],
    lower_bounds: ["capacity", "lengths"],
    threshold_bound: ["capacity", "threshold", "lengths"],
    is_feasible: ["capacity", "lengths", "assignment"],
    min_capacity: ["truck_limit", "lengths"],
}


def calls_with(capacity, lengths):
    """Calls of all seven functions: the function and its arguments, allowed ones and others."""
    yield from calls_with_capacity(capacity, lengths)
    yield from calls_without_capacity(lengths)


def calls_without_capacity(lengths):
    for truck_limit in (0, 1, 2, len(lengths), GREATEST):
        yield min_capacity, (truck_limit, lengths)


def calls_with_capacity(capacity, lengths):
    for function in ASSIGNING + (lower_bounds,):
        yield function, (capacity, lengths)
    for threshold in (0, capacity // 2, capacity // 2 + 1, GREATEST):
        yield threshold_bound, (capacity, threshold, lengths)
    count = len(lengths)
    for assignment in (index_order(lengths), [0] * count, [99] * count, [100] * count, [0] * (count + 1), []):
        yield is_feasible, (capacity, lengths, assignment[:12])


def index_order(lengths):
    return list(range(len(lengths)))


def longest_first_order(lengths):
    """Take out the first of the longest pallets, again and again."""
    left = index_order(lengths)
    order = []
    while left:
        longest = max(lengths[pallet] for pallet in left)
        pallet = next(pallet for pallet in left if lengths[pallet] == longest)
        left.remove(pallet)
        order.append(pallet)
    return order


def follows_first_fit(capacity, lengths, order, answer):
    """Tell whether each pallet is where first fit puts it after those ahead of it."""
    trucks, assignment = answer[0], answer[1:]
    if len(assignment) != len(lengths):
        return False
    loads = {}
    for pallet in order:
        length, truck = lengths[pallet], assignment[pallet]
        if truck not in range(len(loads) + 1) or loads.get(truck, 0) + length > capacity:
            return False
        if any(loads[earlier] + length <= capacity for earlier in range(truck)):
            return False
        loads[truck] = loads.get(truck, 0) + length
    return trucks == len(loads)


def truck_loads(lengths, assignment):
    loads = [0] * (max(assignment, default=-1) + 1)
    for pallet, truck in enumerate(assignment):
        loads[truck] += lengths[pallet]
    return loads


@cache
def canonical_assignments(count):
    """Every canonical assignment of so many pallets, sifted out of more by the document's words."""
    found = []
    for assignment in product(*(range(pallet + 1) for pallet in range(count))):
        if all(truck <= max(assignment[:pallet], default=-1) + 1 for pallet, truck in enumerate(assignment)):
            found.append(list(assignment))
    return found


def is_feasible_assignment(capacity, lengths, assignment):
    return max(truck_loads(lengths, assignment), default=0) <= capacity


def searched_minimal_assignment(capacity, lengths):
    """Search all canonical assignments: those with the fewest trucks, of them the first."""
    feasible = [
        assignment
        for assignment in canonical_assignments(len(lengths))
        if is_feasible_assignment(capacity, lengths, assignment)
    ]
    fewest = min(number_of_trucks(assignment) for assignment in feasible)
    first = min(assignment for assignment in feasible if number_of_trucks(assignment) == fewest)
    return [fewest] + first


def number_of_trucks(assignment):
    return max(assignment) + 1 if assignment else 0


def reckoned_threshold_bound(capacity, threshold, lengths):
    """Put each pallet into its class, then reckon with fractions as the document says."""
    large, medium, small = [], [], []
    for length in lengths:
        if length > capacity - threshold:
            large.append(length)
        elif length > Fraction(capacity, 2):
            medium.append(length)
        elif length >= threshold:
            small.append(length)
    space = sum(capacity - length for length in medium)
    return len(large) + len(medium) + ceil(Fraction(max(0, sum(small) - space), capacity))


def reckoned_lower_bounds(capacity, lengths):
    thresholds = [threshold for threshold in range(capacity + 1) if 2 * threshold <= capacity]
    bounds = [reckoned_threshold_bound(capacity, threshold, lengths) for threshold in thresholds]
    return [ceil(Fraction(sum(lengths), capacity)), max(bounds)]


def fewest_trucks(capacity, lengths, loads=()):
    """Try every way to load the pallets; a new truck is always the next one."""
    if not lengths:
        return len(loads)
    length, rest = lengths[0], lengths[1:]
    found = [fewest_trucks(capacity, rest, loads + (length,))]
    for truck, load in enumerate(loads):
        if load + length <= capacity:
            fuller = loads[:truck] + (load + length,) + loads[truck + 1:]
            found.append(fewest_trucks(capacity, rest, fuller))
    return min(found)


def scattered_numbers():
    """Numbers from 0 to 32767 without a pattern, the same in each run."""
    state = 1
    while True:
        state = (state * 1103515245 + 12345) % 2147483648
        yield state >> 16


def searched_min_capacities(lengths, truck_limits):
    """Search all capacities from 1 to 100: for each limit the smallest that keeps to it, or None."""
    enough = {}
    for capacity in range(max(lengths, default=1), 101):
        enough[capacity] = fewest_trucks(capacity, lengths)
    return [
        min((capacity for capacity in enough if enough[capacity] <= truck_limit), default=None)
        for truck_limit in truck_limits
    ]


def short_inputs():
    """Every input with a capacity of at most 5 and at most 4 pallets, each of which fits."""
    for capacity in range(1, 6):
        for count in range(5):
            for lengths in product(range(1, capacity + 1), repeat=count):
                yield capacity, list(lengths)


def long_inputs():
    """Lists of 5 to 7 pallets that fit, scattered over all capacities, the same in each run."""
    numbers = scattered_numbers()
    for capacity in range(1, 101):
        for count in (5, 6, 7):
            for longest in (capacity, capacity * 2 // 3, capacity // 2, capacity // 3):
                yield capacity, [1 + next(numbers) % max(1, longest) for _ in range(count)]


def many_inputs():
    yield from short_inputs()
    yield from long_inputs()


def many_lengths():
    """The lengths of the short inputs, each once, and those of every third of the long inputs."""
    once = dict.fromkeys(tuple(lengths) for capacity, lengths in short_inputs())
    yield from [list(lengths) for lengths in once]
    yield from [lengths for capacity, lengths in list(long_inputs())[::3]]


class WatchedList(list):
    """A list that refuses every change, so that a change undone later is seen as well."""

    def refuse(self, *args, **kwargs):
        raise AssertionError("what was handed in is being changed")

    __setitem__ = __delitem__ = __iadd__ = __imul__ = refuse
    append = clear = extend = insert = pop = remove = reverse = sort = refuse

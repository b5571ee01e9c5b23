"""What the test files share: inputs, and what the document asks of an assignment."""

from itertools import product

from truckfill.loading import first_fit, first_fit_decreasing

HEURISTICS = (first_fit, first_fit_decreasing)


def index_order(lengths):
    return list(range(len(lengths)))


def longest_first_order(lengths):
    """Take out the first of the longest pallets, again and again."""
    left = index_order(lengths)
    order = []
    while left:
        longest = max(lengths[pallet] for pallet in left)
        pallet = next(pallet for pallet in left if lengths[pallet] == longest)
        left.remove(pallet)
        order.append(pallet)
    return order


def follows_first_fit(capacity, lengths, order, answer):
    """Tell whether each pallet is where first fit puts it after those ahead of it."""
    trucks, assignment = answer[0], answer[1:]
    if len(assignment) != len(lengths):
        return False
    loads = {}
    for pallet in order:
        length, truck = lengths[pallet], assignment[pallet]
        if truck not in range(len(loads) + 1) or loads.get(truck, 0) + length > capacity:
            return False
        if any(loads[earlier] + length <= capacity for earlier in range(truck)):
            return False
        loads[truck] = loads.get(truck, 0) + length
    return trucks == len(loads)


def truck_loads(lengths, assignment):
    loads = [0] * (max(assignment, default=-1) + 1)
    for pallet, truck in enumerate(assignment):
        loads[truck] += lengths[pallet]
    return loads


def fewest_trucks(capacity, lengths, loads=()):
    """Try every way to load the pallets; a new truck is always the next one."""
    if not lengths:
        return len(loads)
    length, rest = lengths[0], lengths[1:]
    found = [fewest_trucks(capacity, rest, loads + (length,))]
    for truck, load in enumerate(loads):
        if load + length <= capacity:
            fuller = loads[:truck] + (load + length,) + loads[truck + 1:]
            found.append(fewest_trucks(capacity, rest, fuller))
    return min(found)


def short_inputs():
    """Every input with a capacity of at most 5 and at most 4 pallets, each of which fits."""
    for capacity in range(1, 6):
        for count in range(5):
            for lengths in product(range(1, capacity + 1), repeat=count):
                yield capacity, list(lengths)


def long_inputs():
    """Lists of 5 to 7 pallets that fit, scattered over all capacities, the same in each run."""
    state = 1
    for capacity in range(1, 101):
        for count in (5, 6, 7):
            for longest in (capacity, capacity * 2 // 3, capacity // 2, capacity // 3):
                lengths = []
                for _ in range(count):
                    state = (state * 1103515245 + 12345) % 2147483648
                    lengths.append(1 + (state >> 16) % max(1, longest))
                yield capacity, lengths


def many_inputs():
    yield from short_inputs()
    yield from long_inputs()


class WatchedList(list):
    """A list that refuses every change, so that a change undone later is seen as well."""

    def refuse(self, *args, **kwargs):
        raise AssertionError("what was handed in is being changed")

    __setitem__ = __delitem__ = __iadd__ = __imul__ = refuse
    append = clear = extend = insert = pop = remove = reverse = sort = refuse

"""Loadings of pallets onto trucks of equal length, by the first-fit heuristics."""

MAX_CAPACITY = 100
MAX_LENGTH = 100
MAX_PALLETS = 7

NO_ERROR = 0
OUT_OF_RANGE = -22
TOO_LONG = -33


def first_fit(capacity, lengths):
    """Answer the number of trucks and the truck of each pallet, or an error code alone."""
    error = loading_error(capacity, lengths)
    if error != NO_ERROR:
        return [error]
    return load_in_order(capacity, lengths, list(range(len(lengths))))


def first_fit_decreasing(capacity, lengths):
    """Answer as first_fit does, but with the longest pallets loaded first."""
    error = loading_error(capacity, lengths)
    if error != NO_ERROR:
        return [error]
    return load_in_order(capacity, lengths, decreasing_order(lengths))


def loading_error(capacity, lengths):
    """Answer the code of the first error that is due, or NO_ERROR."""
    if not capacity_in_range(capacity) or not lengths_in_range(lengths):
        return OUT_OF_RANGE
    for length in lengths:
        if length > capacity:
            return TOO_LONG
    return NO_ERROR


def capacity_in_range(capacity):
    """Tell whether a truck may have this length."""
    return capacity >= 1 and capacity <= MAX_CAPACITY


def lengths_in_range(lengths):
    """Tell whether there are not too many pallets and each may have its length."""
    if len(lengths) > MAX_PALLETS:
        return False
    for length in lengths:
        if length < 1 or length > MAX_LENGTH:
            return False
    return True


def decreasing_order(lengths):
    """Answer the pallet numbers, the longest pallet first."""
    # The pallet number stands second in the key so that pallets of the same
    # length keep the order of their index.
    return sorted(range(len(lengths)), key=lambda pallet: (-lengths[pallet], pallet))


def load_in_order(capacity, lengths, order):
    """Load the pallets in the given order by first fit; answer truck count and assignment."""
    loads = []
    assignment = [0] * len(lengths)
    for pallet in order:
        truck = first_truck_with_space(capacity, loads, lengths[pallet])
        if truck == len(loads):
            loads.append(0)
        loads[truck] = loads[truck] + lengths[pallet]
        assignment[pallet] = truck
    return [len(loads)] + assignment


def first_truck_with_space(capacity, loads, length):
    """Answer the first truck on which the pallet fits, or the next new one."""
    for truck, load in enumerate(loads):
        if load + length <= capacity:
            return truck
    return len(loads)

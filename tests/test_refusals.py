"""Wrong capacities and lengths: each is answered by the code of the first error alone."""

import unittest

from loading_checks import ASSIGNING, GREATEST, calls_with, calls_with_capacity
from truckfill.loading import is_feasible, lower_bounds, threshold_bound


class RefusalTest(unittest.TestCase):
    def check(self, capacity, lengths, expected):
        """Check the answer of every function with a capacity, whatever its other arguments."""
        self.check_calls(calls_with_capacity(capacity, lengths), expected)

    def check_all(self, capacity, lengths, expected):
        """Check the answer of all seven functions, whatever their other arguments."""
        self.check_calls(calls_with(capacity, lengths), expected)

    def check_calls(self, calls, expected):
        for function, arguments in calls:
            with self.subTest(function.__name__, arguments=arguments):
                self.assertEqual(function(*arguments), expected)

    def test_capacity_out_of_range(self):
        for capacity in (0, 101, 102, 200, 65536, GREATEST):
            for lengths in ([], [1], [5, 4, 3, 6, 2], [1] * 7):
                self.check(capacity, lengths, [-22])

    def test_too_many_pallets(self):
        for count in range(8, 13):
            self.check_all(100, [1] * count, [-22])
            self.check_all(10, [10] * count, [-22])

    def test_length_of_0(self):
        self.check_all(10, [0], [-22])
        self.check_all(10, [0, 5, 4], [-22])
        self.check_all(10, [5, 0, 4], [-22])
        self.check_all(10, [5, 4, 0], [-22])
        self.check_all(10, [1, 1, 1, 1, 1, 1, 0], [-22])

    def test_length_above_100(self):
        for length in (101, 102, 65536, GREATEST):
            self.check_all(100, [length], [-22])
            self.check_all(100, [length, 5, 4], [-22])
            self.check_all(100, [5, length, 4], [-22])
            self.check_all(100, [5, 4, length], [-22])

    def test_pallet_longer_than_the_capacity(self):
        self.check(5, [6], [-33])
        self.check(1, [2], [-33])
        self.check(1, [100], [-33])
        self.check(99, [100], [-33])
        self.check(5, [6, 1, 1], [-33])
        self.check(5, [1, 6, 1], [-33])
        self.check(5, [1, 1, 6], [-33])
        self.check(5, [5, 5, 5, 5, 5, 5, 6], [-33])

    def test_out_of_range_comes_before_too_long(self):
        self.check(0, [1], [-22])
        self.check(0, [100], [-22])
        self.check_all(5, [6, 0], [-22])
        self.check_all(5, [0, 6], [-22])
        self.check_all(5, [6, 101], [-22])
        self.check_all(5, [101], [-22])
        self.check_all(5, [GREATEST], [-22])
        self.check_all(5, [6] * 8, [-22])
        self.check_all(5, [6] * 12, [-22])

    def test_all_out_of_range_at_once(self):
        self.check_all(0, [0] * 12, [-22])
        self.check_all(GREATEST, [GREATEST] * 12, [-22])

    def test_limits_themselves_are_allowed(self):
        for capacity, lengths, trucks in ((1, [1], 1), (100, [100], 1), (100, [1], 1), (100, [100] * 7, 7)):
            for function in ASSIGNING:
                self.assertEqual(function(capacity, lengths), [trucks] + list(range(trucks)))
            self.assertEqual(lower_bounds(capacity, lengths), [trucks, trucks])
            self.assertEqual(threshold_bound(capacity, 0, lengths), [trucks])
            self.assertEqual(is_feasible(capacity, lengths, list(range(trucks))), [1])


if __name__ == "__main__":
    unittest.main()

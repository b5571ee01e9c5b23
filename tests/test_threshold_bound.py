"""threshold_bound: example, ordinary inputs, named edges, wrong inputs, and a plain reckoning."""

import unittest

from loading_checks import GREATEST, many_inputs, reckoned_threshold_bound
from truckfill.loading import threshold_bound


class ThresholdBoundTest(unittest.TestCase):
    def check(self, capacity, lengths, expected):
        """Check the answers for the thresholds from 0 on."""
        answers = [threshold_bound(capacity, threshold, lengths) for threshold in range(len(expected))]
        self.assertEqual(answers, [[number] for number in expected])

    def test_example_of_the_document(self):
        self.assertEqual(threshold_bound(10, 4, [5, 4, 3, 6, 2]), [2])

    def test_ordinary_inputs(self):
        self.check(10, [5, 4, 3, 6, 2], [2, 2, 2, 2, 2, 2, -2])
        self.check(10, [7, 2, 8, 3, 1, 9, 2], [4, 4, 4, 3, 3, 3, -2])
        self.check(50, [20, 40, 25, 10, 30], [3, 3, 3, 3, 3])
        self.assertEqual(threshold_bound(50, 25, [20, 40, 25, 10, 30]), [3])

    def test_one_pallet(self):
        self.check(10, [3], [1, 1, 1, 1, 0, 0, -2])
        self.check(10, [7], [1, 1, 1, 1, 1, 1, -2])

    def test_threshold_0(self):
        # No pallet is large, and each of at most half the capacity is small.
        self.assertEqual(threshold_bound(10, 0, [1]), [1])
        self.assertEqual(threshold_bound(10, 0, [10, 10]), [2])
        self.assertEqual(threshold_bound(10, 0, [9, 1]), [1])
        self.assertEqual(threshold_bound(10, 0, [9, 1, 1]), [2])
        self.assertEqual(threshold_bound(10, 0, [5, 5, 5]), [2])

    def test_greatest_threshold_and_one_more(self):
        for capacity in range(1, 101):
            greatest = max(threshold for threshold in range(101) if 2 * threshold <= capacity)
            for lengths in ([], [1], [capacity]):
                self.assertGreaterEqual(threshold_bound(capacity, greatest, lengths)[0], 0)
                self.assertEqual(threshold_bound(capacity, greatest + 1, lengths), [-2])

    def test_greatest_threshold_with_an_even_capacity(self):
        self.assertEqual(threshold_bound(10, 5, [5, 5, 5]), [2])
        self.assertEqual(threshold_bound(10, 5, [6, 5]), [2])
        self.assertEqual(threshold_bound(10, 5, [4, 4, 4]), [0])
        self.assertEqual(threshold_bound(10, 6, [5, 5, 5]), [-2])
        self.assertEqual(threshold_bound(100, 50, [50, 50, 51]), [2])
        self.assertEqual(threshold_bound(100, 51, [50, 50, 51]), [-2])

    def test_greatest_threshold_with_an_odd_capacity(self):
        self.assertEqual(threshold_bound(11, 5, [5, 5, 5]), [2])
        self.assertEqual(threshold_bound(11, 5, [6, 5]), [1])
        self.assertEqual(threshold_bound(11, 5, [7, 5]), [2])
        self.assertEqual(threshold_bound(11, 6, [6, 5]), [-2])
        self.assertEqual(threshold_bound(99, 49, [50, 49]), [1])
        self.assertEqual(threshold_bound(99, 50, [50, 49]), [-2])

    def test_length_at_capacity_less_threshold_and_one_above(self):
        # The truck of a pallet of length 7 has space for 3, that of one of length 8 is passed over.
        self.assertEqual(threshold_bound(10, 3, [7, 3]), [1])
        self.assertEqual(threshold_bound(10, 3, [8, 3]), [2])
        self.assertEqual(threshold_bound(10, 3, [7, 7, 3, 3]), [2])
        self.assertEqual(threshold_bound(10, 3, [7, 8, 3, 3]), [3])
        self.assertEqual(threshold_bound(9, 2, [7, 7, 2, 2]), [2])
        self.assertEqual(threshold_bound(9, 2, [8, 7, 2, 2]), [3])

    def test_length_at_threshold_and_one_below(self):
        self.assertEqual(threshold_bound(10, 4, [4]), [1])
        self.assertEqual(threshold_bound(10, 4, [3]), [0])
        self.assertEqual(threshold_bound(10, 4, [8, 4]), [2])
        self.assertEqual(threshold_bound(10, 4, [8, 3]), [1])
        self.assertEqual(threshold_bound(9, 4, [4, 4, 4]), [2])
        self.assertEqual(threshold_bound(9, 4, [4, 4, 3]), [1])

    def test_pallet_of_half_the_capacity(self):
        self.check(10, [5], [1, 1, 1, 1, 1, 1, -2])
        self.check(10, [5, 5], [1, 1, 1, 1, 1, 1, -2])
        self.check(10, [5, 5, 5], [2, 2, 2, 2, 2, 2, -2])
        self.check(2, [1, 1, 1], [2, 2, -2])
        self.check(100, [50] * 7, [4] * 51 + [-2])

    def test_pallets_just_above_and_just_below_half_of_an_odd_capacity(self):
        self.check(9, [5, 5, 5], [3, 3, 3, 3, 3, -2])
        self.check(9, [4, 4, 4], [2, 2, 2, 2, 2, -2])
        self.check(9, [5, 4], [1, 1, 1, 1, 1, -2])

    def test_small_pallets_just_fill_the_space_and_one_more(self):
        self.assertEqual(threshold_bound(10, 1, [6, 7, 4, 3]), [2])
        self.assertEqual(threshold_bound(10, 1, [6, 7, 4, 4]), [3])

    def test_small_pallets_just_fill_a_new_truck_and_one_more(self):
        self.assertEqual(threshold_bound(10, 1, [8, 2, 5, 5]), [2])
        self.assertEqual(threshold_bound(10, 1, [8, 2, 5, 5, 1]), [3])

    def test_more_space_than_small_pallets_is_no_gain(self):
        self.assertEqual(threshold_bound(11, 1, [6] * 7), [7])
        self.assertEqual(threshold_bound(11, 1, [6] * 6 + [1]), [6])

    def test_no_pallets(self):
        for capacity in (1, 2, 9, 10, 99, 100):
            self.check(capacity, [], [0] * (capacity // 2 + 1) + [-2])

    def test_exactly_seven_pallets(self):
        self.assertEqual(threshold_bound(28, 0, [1, 2, 3, 4, 5, 6, 7]), [1])
        self.assertEqual(threshold_bound(27, 0, [1, 2, 3, 4, 5, 6, 7]), [2])
        self.assertEqual(threshold_bound(27, 2, [1, 2, 3, 4, 5, 6, 7]), [1])
        self.assertEqual(threshold_bound(100, 50, [51] * 7), [7])

    def test_capacity_1(self):
        self.check(1, [1], [1, -2])
        self.check(1, [1] * 7, [7, -2])

    def test_capacity_100_with_lengths_1_and_100(self):
        self.check(100, [100], [1] * 51 + [-2])
        self.check(100, [1], [1, 1] + [0] * 49 + [-2])
        self.check(100, [1, 100], [2, 2] + [1] * 49 + [-2])
        self.check(100, [1, 99], [1, 1] + [1] * 49 + [-2])

    def test_pallet_as_long_as_the_capacity(self):
        self.check(10, [10, 10, 10], [3, 3, 3, 3, 3, 3, -2])
        self.check(9, [9, 4, 4], [2, 2, 2, 2, 2, -2])

    def test_thresholds_that_are_too_large(self):
        for threshold in (6, 7, 10, 11, 100, 101, 65536, GREATEST):
            for lengths in ([], [5], [5, 4, 3, 6, 2], [10] * 7):
                self.assertEqual(threshold_bound(10, threshold, lengths), [-2])

    def test_out_of_range_comes_before_a_threshold_that_is_too_large(self):
        for threshold in (51, 52, 101, GREATEST):
            self.assertEqual(threshold_bound(0, threshold, []), [-22])
            self.assertEqual(threshold_bound(101, threshold, []), [-22])
            self.assertEqual(threshold_bound(10, threshold, [0]), [-22])
            self.assertEqual(threshold_bound(10, threshold, [5, 101]), [-22])
            self.assertEqual(threshold_bound(10, threshold, [1] * 8), [-22])
            self.assertEqual(threshold_bound(10, threshold, [11] * 12), [-22])

    def test_a_pallet_that_is_too_long_comes_before_a_threshold_that_is_too_large(self):
        for threshold in (6, 101, GREATEST):
            self.assertEqual(threshold_bound(10, threshold, [11]), [-33])
            self.assertEqual(threshold_bound(10, threshold, [5, 4, 100]), [-33])

    def test_answers_as_reckoned_for_every_threshold(self):
        for capacity, lengths in many_inputs():
            for threshold in range(capacity + 2):
                expected = -2
                if 2 * threshold <= capacity:
                    expected = reckoned_threshold_bound(capacity, threshold, lengths)
                answer = threshold_bound(capacity, threshold, lengths)
                self.assertEqual(answer, [expected], (capacity, threshold, lengths))


if __name__ == "__main__":
    unittest.main()

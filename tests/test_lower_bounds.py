"""lower_bounds: example, ordinary inputs, named edges, and the document's words reckoned plainly."""

import unittest

from loading_checks import many_inputs, reckoned_lower_bounds, reckoned_threshold_bound
from truckfill.loading import lower_bounds


class LowerBoundsTest(unittest.TestCase):
    def test_example_of_the_document(self):
        self.assertEqual(lower_bounds(10, [5, 4, 3, 6, 2]), [2, 2])

    def test_the_reckoning_gives_the_document_s_threshold_bound(self):
        self.assertEqual(reckoned_threshold_bound(10, 4, [5, 4, 3, 6, 2]), 2)

    def test_ordinary_inputs(self):
        self.assertEqual(lower_bounds(10, [7, 2, 8, 3, 1, 9, 2]), [4, 4])
        self.assertEqual(lower_bounds(10, [6, 7, 8]), [3, 3])
        self.assertEqual(lower_bounds(10, [6, 6, 6]), [2, 3])
        self.assertEqual(lower_bounds(50, [20, 40, 25, 10, 30]), [3, 3])

    def test_one_pallet(self):
        self.assertEqual(lower_bounds(10, [3]), [1, 1])

    def test_length_bound_is_rounded_up(self):
        self.assertEqual(lower_bounds(10, [5, 4]), [1, 1])
        self.assertEqual(lower_bounds(10, [5, 5]), [1, 1])
        self.assertEqual(lower_bounds(10, [5, 5, 1]), [2, 2])
        self.assertEqual(lower_bounds(10, [5, 5, 5, 5]), [2, 2])

    def test_best_bound_at_the_least_threshold_alone(self):
        # From threshold 2 on the pallet of length 1 is left out.
        self.assertEqual(lower_bounds(4, [2, 2, 1]), [2, 2])

    def test_best_bound_at_half_the_capacity_alone(self):
        self.assertEqual(lower_bounds(4, [3, 3, 2]), [2, 3])
        self.assertEqual(lower_bounds(100, [51, 51, 50]), [2, 3])

    def test_best_bound_at_half_an_odd_capacity_rounded_down(self):
        self.assertEqual(lower_bounds(5, [4, 4, 2]), [2, 3])
        self.assertEqual(lower_bounds(99, [51, 51, 49]), [2, 3])

    def test_best_bound_at_a_threshold_in_between_alone(self):
        # At 0 to 2 the pallets of length 3 fill up the trucks of the others; at 4 and 5 they are left out.
        self.assertEqual([reckoned_threshold_bound(10, t, [8, 8, 3]) for t in range(6)], [2, 2, 2, 3, 2, 2])
        self.assertEqual(lower_bounds(10, [8, 8, 3]), [2, 3])

    def test_pallet_that_just_leaves_space_for_the_threshold_is_not_large(self):
        self.assertEqual(lower_bounds(10, [7, 3]), [1, 1])
        self.assertEqual(lower_bounds(10, [7, 7, 3, 3]), [2, 2])

    def test_space_beside_medium_pallets_is_no_gain(self):
        # At each threshold the trucks have much more space than there are small pallets.
        self.assertEqual(lower_bounds(11, [6] * 7), [4, 7])

    def test_no_pallets(self):
        for capacity in (1, 2, 10, 99, 100):
            self.assertEqual(lower_bounds(capacity, []), [0, 0])

    def test_seven_pallets_on_one_truck(self):
        self.assertEqual(lower_bounds(28, [1, 2, 3, 4, 5, 6, 7]), [1, 1])
        self.assertEqual(lower_bounds(27, [1, 2, 3, 4, 5, 6, 7]), [2, 2])
        self.assertEqual(lower_bounds(100, [1] * 7), [1, 1])

    def test_seven_pallets_no_two_of_which_fit_together(self):
        self.assertEqual(lower_bounds(11, [6, 7, 8, 9, 10, 11, 6]), [6, 7])
        self.assertEqual(lower_bounds(100, [51] * 7), [4, 7])

    def test_capacity_1(self):
        self.assertEqual(lower_bounds(1, [1]), [1, 1])
        self.assertEqual(lower_bounds(1, [1, 1, 1]), [3, 3])
        self.assertEqual(lower_bounds(1, [1] * 7), [7, 7])

    def test_capacity_100_with_lengths_1_and_100(self):
        self.assertEqual(lower_bounds(100, [100]), [1, 1])
        self.assertEqual(lower_bounds(100, [1]), [1, 1])
        self.assertEqual(lower_bounds(100, [1, 100]), [2, 2])
        self.assertEqual(lower_bounds(100, [100, 100, 99, 1]), [3, 3])

    def test_pallet_as_long_as_the_capacity(self):
        self.assertEqual(lower_bounds(10, [10, 10, 10]), [3, 3])
        self.assertEqual(lower_bounds(10, [10, 1]), [2, 2])
        self.assertEqual(lower_bounds(9, [9, 4, 4]), [2, 2])

    def test_pallet_of_half_the_capacity(self):
        self.assertEqual(lower_bounds(10, [5, 5, 5]), [2, 2])
        self.assertEqual(lower_bounds(10, [6, 5]), [2, 2])
        self.assertEqual(lower_bounds(10, [6, 6, 5]), [2, 3])

    def test_pallets_just_above_and_just_below_half_of_an_odd_capacity(self):
        self.assertEqual(lower_bounds(9, [5, 5, 4, 4]), [2, 2])
        self.assertEqual(lower_bounds(9, [5, 5, 5]), [2, 3])
        self.assertEqual(lower_bounds(9, [4, 4, 4]), [2, 2])

    def test_pallets_of_the_same_length(self):
        self.assertEqual(lower_bounds(10, [3] * 7), [3, 3])
        self.assertEqual(lower_bounds(10, [4] * 5), [2, 2])

    def test_answers_as_reckoned_for_every_threshold(self):
        for capacity, lengths in many_inputs():
            answer = lower_bounds(capacity, lengths)
            self.assertEqual(answer, reckoned_lower_bounds(capacity, lengths), (capacity, lengths))


if __name__ == "__main__":
    unittest.main()

"""first_fit_decreasing: examples, ordinary inputs and the edges that the document names."""

import unittest

from loading_checks import follows_first_fit, longest_first_order, many_inputs
from truckfill.loading import first_fit_decreasing


class FirstFitDecreasingTest(unittest.TestCase):
    def test_example_of_the_document(self):
        self.assertEqual(first_fit_decreasing(10, [5, 4, 3, 6, 2]), [2, 1, 0, 1, 0, 1])

    def test_ordinary_inputs(self):
        self.assertEqual(
            first_fit_decreasing(10, [7, 2, 8, 3, 1, 9, 2]), [4, 2, 1, 1, 2, 0, 0, 3]
        )
        self.assertEqual(first_fit_decreasing(50, [20, 40, 25, 10, 30]), [3, 1, 0, 2, 0, 1])

    def test_one_pallet(self):
        self.assertEqual(first_fit_decreasing(10, [3]), [1, 0])

    def test_takes_the_longest_pallet_first(self):
        self.assertEqual(first_fit_decreasing(10, [2, 3, 6, 7]), [2, 1, 0, 1, 0])

    def test_answers_in_the_order_of_the_pallets(self):
        self.assertEqual(first_fit_decreasing(10, [6, 10, 7]), [3, 2, 0, 1])

    def test_takes_the_first_truck_that_fits_not_the_fullest(self):
        self.assertEqual(first_fit_decreasing(20, [3, 8, 9, 13]), [2, 0, 1, 1, 0])

    def test_takes_the_first_truck_that_fits_not_the_emptiest(self):
        self.assertEqual(first_fit_decreasing(10, [4, 5, 6]), [2, 0, 1, 0])

    def test_no_pallets(self):
        for capacity in (1, 10, 100):
            self.assertEqual(first_fit_decreasing(capacity, []), [0])

    def test_exactly_seven_pallets(self):
        self.assertEqual(
            first_fit_decreasing(10, [5, 5, 5, 5, 5, 5, 5]), [4, 0, 0, 1, 1, 2, 2, 3]
        )
        self.assertEqual(
            first_fit_decreasing(10, [4, 5, 6, 7, 8, 9, 10]), [6, 4, 5, 4, 3, 2, 1, 0]
        )

    def test_capacity_1(self):
        self.assertEqual(first_fit_decreasing(1, [1]), [1, 0])
        self.assertEqual(
            first_fit_decreasing(1, [1, 1, 1, 1, 1, 1, 1]), [7, 0, 1, 2, 3, 4, 5, 6]
        )

    def test_capacity_100_with_lengths_1_and_100(self):
        self.assertEqual(first_fit_decreasing(100, [100]), [1, 0])
        self.assertEqual(
            first_fit_decreasing(100, [1, 1, 1, 1, 1, 1, 1]), [1, 0, 0, 0, 0, 0, 0, 0]
        )
        self.assertEqual(first_fit_decreasing(100, [1, 100, 99, 1, 100]), [4, 2, 0, 2, 3, 1])

    def test_pallet_as_long_as_the_capacity(self):
        self.assertEqual(first_fit_decreasing(10, [10, 10, 10]), [3, 0, 1, 2])
        self.assertEqual(first_fit_decreasing(10, [4, 6, 10]), [2, 1, 1, 0])

    def test_pallets_of_the_same_length_are_taken_in_order_of_their_index(self):
        self.assertEqual(first_fit_decreasing(10, [5, 5, 5, 5]), [2, 0, 0, 1, 1])
        self.assertEqual(first_fit_decreasing(10, [4, 4, 4, 4, 4]), [3, 0, 0, 1, 1, 2])
        self.assertEqual(first_fit_decreasing(10, [3, 6, 3, 6, 3]), [3, 0, 0, 1, 1, 2])

    def test_pallet_that_fits_just_into_what_is_left(self):
        self.assertEqual(first_fit_decreasing(10, [3, 4, 7, 6]), [2, 0, 1, 0, 1])

    def test_pallet_that_is_one_too_long_for_what_is_left(self):
        self.assertEqual(first_fit_decreasing(10, [4, 7, 8]), [3, 2, 1, 0])

    def test_follows_the_definition_over_many_inputs(self):
        for capacity, lengths in many_inputs():
            answer = first_fit_decreasing(capacity, lengths)
            self.assertTrue(
                follows_first_fit(capacity, lengths, longest_first_order(lengths), answer),
                (capacity, lengths, answer),
            )


if __name__ == "__main__":
    unittest.main()

"""first_fit: examples, ordinary inputs and the edges that the document names."""

import unittest

from loading_checks import follows_first_fit, index_order, many_inputs
from truckfill.loading import first_fit


class FirstFitTest(unittest.TestCase):
    def test_examples_of_the_document(self):
        self.assertEqual(first_fit(10, [5, 4, 3, 6, 2]), [3, 0, 0, 1, 1, 2])
        self.assertEqual(first_fit(5, [5, 4, 3, 6, 2]), [-33])

    def test_ordinary_inputs(self):
        self.assertEqual(first_fit(10, [7, 2, 8, 3, 1, 9, 2]), [4, 0, 0, 1, 2, 0, 3, 1])
        self.assertEqual(first_fit(50, [20, 40, 25, 10, 30]), [3, 0, 1, 0, 1, 2])

    def test_one_pallet(self):
        self.assertEqual(first_fit(10, [3]), [1, 0])

    def test_takes_the_first_truck_that_fits_not_the_fullest(self):
        self.assertEqual(first_fit(10, [5, 6, 4]), [2, 0, 1, 0])

    def test_takes_the_first_truck_that_fits_not_the_emptiest(self):
        self.assertEqual(first_fit(10, [6, 5, 4]), [2, 0, 1, 0])

    def test_goes_back_to_a_truck_before_the_last(self):
        self.assertEqual(first_fit(10, [6, 9, 8, 2, 1, 1]), [3, 0, 1, 2, 0, 0, 0])

    def test_takes_the_pallets_in_order(self):
        self.assertEqual(first_fit(10, [2, 3, 6, 7]), [3, 0, 0, 1, 2])
        self.assertEqual(first_fit(10, [7, 6, 3, 2]), [2, 0, 1, 0, 1])

    def test_no_pallets(self):
        for capacity in (1, 10, 100):
            self.assertEqual(first_fit(capacity, []), [0])

    def test_exactly_seven_pallets(self):
        self.assertEqual(first_fit(10, [5, 5, 5, 5, 5, 5, 5]), [4, 0, 0, 1, 1, 2, 2, 3])
        self.assertEqual(first_fit(10, [6, 6, 6, 6, 6, 6, 6]), [7, 0, 1, 2, 3, 4, 5, 6])

    def test_capacity_1(self):
        self.assertEqual(first_fit(1, [1]), [1, 0])
        self.assertEqual(first_fit(1, [1, 1, 1, 1, 1, 1, 1]), [7, 0, 1, 2, 3, 4, 5, 6])

    def test_capacity_100_with_lengths_1_and_100(self):
        self.assertEqual(first_fit(100, [100]), [1, 0])
        self.assertEqual(first_fit(100, [1, 1, 1, 1, 1, 1, 1]), [1, 0, 0, 0, 0, 0, 0, 0])
        self.assertEqual(first_fit(100, [100, 1, 99, 100, 1]), [4, 0, 1, 1, 2, 3])

    def test_pallet_as_long_as_the_capacity(self):
        self.assertEqual(first_fit(10, [10, 10, 10]), [3, 0, 1, 2])
        self.assertEqual(first_fit(10, [4, 10, 6]), [2, 0, 1, 0])

    def test_pallets_of_the_same_length(self):
        self.assertEqual(first_fit(10, [3, 6, 3, 6, 3]), [3, 0, 0, 1, 1, 2])
        self.assertEqual(first_fit(10, [4, 4, 4, 4, 4]), [3, 0, 0, 1, 1, 2])

    def test_pallet_that_fits_just_into_what_is_left(self):
        self.assertEqual(first_fit(10, [6, 7, 4, 3]), [2, 0, 1, 0, 1])

    def test_pallet_that_is_one_too_long_for_what_is_left(self):
        self.assertEqual(first_fit(10, [6, 7, 5]), [3, 0, 1, 2])

    def test_follows_the_definition_over_many_inputs(self):
        for capacity, lengths in many_inputs():
            answer = first_fit(capacity, lengths)
            self.assertTrue(
                follows_first_fit(capacity, lengths, index_order(lengths), answer),
                (capacity, lengths, answer),
            )


if __name__ == "__main__":
    unittest.main()

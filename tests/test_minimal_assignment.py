"""minimal_assignment: example, ordinary inputs, named edges, and a plain search."""

import unittest

from loading_checks import canonical_assignments, many_inputs, searched_minimal_assignment
from truckfill.loading import first_fit, first_fit_decreasing, minimal_assignment


class MinimalAssignmentTest(unittest.TestCase):
    def test_example_of_the_document(self):
        self.assertEqual(minimal_assignment(10, [5, 4, 3, 6, 2]), [2, 0, 1, 0, 1, 0])

    def test_ordinary_inputs(self):
        self.assertEqual(minimal_assignment(10, [7, 2, 8, 3, 1, 9, 2]), [4, 0, 0, 1, 2, 0, 3, 1])
        self.assertEqual(minimal_assignment(10, [2, 3, 6, 7]), [2, 0, 1, 0, 1])
        self.assertEqual(minimal_assignment(50, [20, 40, 25, 10, 30]), [3, 0, 1, 0, 1, 2])

    def test_one_pallet(self):
        self.assertEqual(minimal_assignment(10, [3]), [1, 0])

    def test_fewer_trucks_than_both_heuristics(self):
        self.assertEqual(first_fit(7, [2, 2, 2, 2, 3, 3])[0], 3)
        self.assertEqual(first_fit_decreasing(7, [2, 2, 2, 2, 3, 3])[0], 3)
        self.assertEqual(minimal_assignment(7, [2, 2, 2, 2, 3, 3]), [2, 0, 0, 1, 1, 0, 1])

    def test_the_first_of_several_assignments_with_the_fewest_trucks(self):
        self.assertEqual(minimal_assignment(10, [4, 4, 4, 4]), [2, 0, 0, 1, 1])
        self.assertEqual(minimal_assignment(10, [1, 9, 5]), [2, 0, 0, 1])
        self.assertEqual(minimal_assignment(10, [1, 9, 1, 9]), [2, 0, 0, 1, 1])
        self.assertEqual(minimal_assignment(10, [4, 6, 5, 5]), [2, 0, 0, 1, 1])

    def test_fewer_trucks_come_before_an_earlier_assignment(self):
        # [0, 0, 1, 2] is feasible and lexicographically earlier, but has three trucks.
        self.assertEqual(minimal_assignment(10, [3, 4, 7, 6]), [2, 0, 1, 0, 1])

    def test_no_pallets(self):
        for capacity in (1, 2, 10, 99, 100):
            self.assertEqual(minimal_assignment(capacity, []), [0])

    def test_seven_pallets_on_one_truck(self):
        self.assertEqual(minimal_assignment(28, [1, 2, 3, 4, 5, 6, 7]), [1, 0, 0, 0, 0, 0, 0, 0])
        self.assertEqual(minimal_assignment(27, [1, 2, 3, 4, 5, 6, 7]), [2, 0, 0, 0, 0, 0, 0, 1])
        self.assertEqual(minimal_assignment(100, [1, 1, 1, 1, 1, 1, 1]), [1, 0, 0, 0, 0, 0, 0, 0])

    def test_seven_pallets_no_two_of_which_fit_together(self):
        self.assertEqual(minimal_assignment(11, [6, 7, 8, 9, 10, 11, 6]), [7, 0, 1, 2, 3, 4, 5, 6])
        self.assertEqual(minimal_assignment(100, [51] * 7), [7, 0, 1, 2, 3, 4, 5, 6])

    def test_capacity_1(self):
        self.assertEqual(minimal_assignment(1, [1]), [1, 0])
        self.assertEqual(minimal_assignment(1, [1, 1, 1]), [3, 0, 1, 2])
        self.assertEqual(minimal_assignment(1, [1] * 7), [7, 0, 1, 2, 3, 4, 5, 6])

    def test_capacity_100_with_lengths_1_and_100(self):
        self.assertEqual(minimal_assignment(100, [100]), [1, 0])
        self.assertEqual(minimal_assignment(100, [1, 100, 99, 1, 100]), [4, 0, 1, 0, 2, 3])
        self.assertEqual(minimal_assignment(100, [1, 60, 99, 40]), [2, 0, 1, 0, 1])

    def test_odd_and_even_capacity(self):
        self.assertEqual(minimal_assignment(9, [5, 4, 5, 4]), [2, 0, 0, 1, 1])
        self.assertEqual(minimal_assignment(9, [5, 5, 4, 4]), [2, 0, 1, 0, 1])
        self.assertEqual(minimal_assignment(10, [5, 6, 4, 5]), [2, 0, 1, 1, 0])

    def test_pallet_as_long_as_the_capacity(self):
        self.assertEqual(minimal_assignment(10, [10]), [1, 0])
        self.assertEqual(minimal_assignment(10, [10, 10, 10]), [3, 0, 1, 2])
        self.assertEqual(minimal_assignment(10, [4, 10, 6]), [2, 0, 1, 0])

    def test_pallet_of_half_the_capacity(self):
        self.assertEqual(minimal_assignment(10, [5, 5]), [1, 0, 0])
        self.assertEqual(minimal_assignment(10, [5, 5, 5]), [2, 0, 0, 1])
        self.assertEqual(minimal_assignment(10, [5, 6, 5]), [2, 0, 1, 0])

    def test_pallets_of_the_same_length(self):
        self.assertEqual(minimal_assignment(10, [3, 3, 3, 3, 3, 3, 3]), [3, 0, 0, 0, 1, 1, 1, 2])
        self.assertEqual(minimal_assignment(10, [3, 7, 3, 7]), [2, 0, 0, 1, 1])
        self.assertEqual(minimal_assignment(10, [3, 3, 7, 7]), [2, 0, 1, 0, 1])

    def test_the_search_goes_through_all_canonical_assignments(self):
        self.assertEqual([len(canonical_assignments(count)) for count in range(8)], [1, 1, 2, 5, 15, 52, 203, 877])

    def test_answers_as_a_search_through_all_canonical_assignments(self):
        for capacity, lengths in many_inputs():
            answer = minimal_assignment(capacity, lengths)
            self.assertEqual(answer, searched_minimal_assignment(capacity, lengths), (capacity, lengths))


if __name__ == "__main__":
    unittest.main()

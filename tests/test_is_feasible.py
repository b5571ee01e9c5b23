"""is_feasible: example, ordinary inputs, named edges, wrong inputs, and a plain reckoning."""

import unittest
from itertools import product

from loading_checks import (
    GREATEST,
    canonical_assignments,
    is_feasible_assignment,
    long_inputs,
    many_inputs,
    scattered_numbers,
    short_inputs,
)
from truckfill.loading import is_feasible


class IsFeasibleTest(unittest.TestCase):
    def check_reckoned(self, capacity, lengths, assignment):
        """Check the answer against the words of the document, and give it back."""
        answer = is_feasible(capacity, lengths, assignment)
        expected = 1 if is_feasible_assignment(capacity, lengths, assignment) else 0
        self.assertEqual(answer, [expected], (capacity, lengths, assignment))
        return answer[0]

    def test_example_of_the_document(self):
        self.assertEqual(is_feasible(10, [5, 4, 3, 6, 2], [0, 1, 0, 1, 0]), [1])

    def test_ordinary_inputs(self):
        self.assertEqual(is_feasible(10, [5, 4, 3, 6, 2], [0, 0, 1, 1, 2]), [1])
        self.assertEqual(is_feasible(10, [5, 4, 3, 6, 2], [0, 0, 0, 1, 1]), [0])
        self.assertEqual(is_feasible(10, [5, 4, 3, 6, 2], [0, 0, 0, 0, 0]), [0])
        self.assertEqual(is_feasible(50, [20, 40, 25, 10, 30], [0, 1, 2, 1, 0]), [1])
        self.assertEqual(is_feasible(50, [20, 40, 25, 10, 30], [0, 1, 2, 1, 2]), [0])

    def test_one_pallet(self):
        self.assertEqual(is_feasible(10, [3], [0]), [1])
        self.assertEqual(is_feasible(10, [10], [0]), [1])

    def test_load_just_at_the_capacity_and_one_above(self):
        for truck in (0, 1, 50, 99):
            self.assertEqual(is_feasible(10, [6, 4], [truck, truck]), [1])
            self.assertEqual(is_feasible(10, [6, 5], [truck, truck]), [0])
            self.assertEqual(is_feasible(9, [6, 3], [truck, truck]), [1])
            self.assertEqual(is_feasible(9, [6, 4], [truck, truck]), [0])

    def test_one_truck_above_the_capacity_is_enough(self):
        lengths = [6, 5, 6, 4, 6, 4]
        self.assertEqual(is_feasible(10, lengths, [0, 0, 1, 1, 2, 2]), [0])
        self.assertEqual(is_feasible(10, lengths, [1, 1, 0, 0, 2, 2]), [0])
        self.assertEqual(is_feasible(10, lengths, [2, 2, 1, 1, 0, 0]), [0])
        self.assertEqual(is_feasible(11, lengths, [2, 2, 1, 1, 0, 0]), [1])

    def test_trucks_may_be_loaded_to_the_full_all_at_once(self):
        self.assertEqual(is_feasible(10, [6, 4, 6, 4, 6, 4], [0, 0, 1, 1, 2, 2]), [1])

    def test_assignments_that_are_not_canonical(self):
        self.assertEqual(is_feasible(10, [6, 5], [1, 0]), [1])
        self.assertEqual(is_feasible(10, [6, 5, 4], [1, 0, 1]), [1])
        self.assertEqual(is_feasible(10, [6, 5, 4], [2, 1, 0]), [1])
        self.assertEqual(is_feasible(10, [6, 5, 6], [1, 0, 1]), [0])

    def test_trucks_without_pallets(self):
        self.assertEqual(is_feasible(10, [3], [1]), [1])
        self.assertEqual(is_feasible(10, [6, 5], [0, 2]), [1])
        self.assertEqual(is_feasible(10, [6, 5], [3, 7]), [1])
        self.assertEqual(is_feasible(10, [6, 5], [7, 7]), [0])
        self.assertEqual(is_feasible(10, [6, 4, 6], [99, 99, 5]), [1])

    def test_truck_indexes_0_and_99_and_100(self):
        self.assertEqual(is_feasible(10, [3], [99]), [1])
        self.assertEqual(is_feasible(10, [6, 5], [0, 99]), [1])
        self.assertEqual(is_feasible(10, [6, 5], [99, 0]), [1])
        self.assertEqual(is_feasible(10, [6, 5], [99, 99]), [0])
        self.assertEqual(is_feasible(100, [1] * 7, [99] * 7), [1])
        self.assertEqual(is_feasible(10, [3], [100]), [-22])

    def test_truck_index_that_is_out_of_range(self):
        for truck in (100, 101, 199, 65536, GREATEST):
            self.assertEqual(is_feasible(10, [6], [truck]), [-22])
            self.assertEqual(is_feasible(10, [6, 5, 4], [truck, 0, 1]), [-22])
            self.assertEqual(is_feasible(10, [6, 5, 4], [0, truck, 1]), [-22])
            self.assertEqual(is_feasible(10, [6, 5, 4], [0, 1, truck]), [-22])
            self.assertEqual(is_feasible(10, [6, 5, 4], [truck] * 3), [-22])

    def test_truck_index_out_of_range_beside_a_load_above_the_capacity(self):
        self.assertEqual(is_feasible(10, [6, 5, 4], [0, 0, 100]), [-22])
        self.assertEqual(is_feasible(10, [6, 5, 4], [100, 0, 0]), [-22])

    def test_more_or_fewer_elements_than_pallets(self):
        for count in range(1, 8):
            for elements in range(13):
                answer = is_feasible(100, [1] * count, [0] * elements)
                self.assertEqual(answer, [1 if elements == count else -22], (count, elements))

    def test_more_or_fewer_elements_beside_a_load_above_the_capacity(self):
        self.assertEqual(is_feasible(10, [6, 5, 4], [0, 0]), [-22])
        self.assertEqual(is_feasible(10, [6, 5, 4], [0, 0, 0, 0]), [-22])

    def test_no_pallets(self):
        for capacity in (1, 2, 10, 99, 100):
            self.assertEqual(is_feasible(capacity, [], []), [1])
            self.assertEqual(is_feasible(capacity, [], [0]), [-22])
            self.assertEqual(is_feasible(capacity, [], [100]), [-22])
            self.assertEqual(is_feasible(capacity, [], [0] * 12), [-22])

    def test_exactly_seven_pallets(self):
        self.assertEqual(is_feasible(28, [1, 2, 3, 4, 5, 6, 7], [0] * 7), [1])
        self.assertEqual(is_feasible(27, [1, 2, 3, 4, 5, 6, 7], [0] * 7), [0])
        self.assertEqual(is_feasible(10, [10] * 7, [6, 5, 4, 3, 2, 1, 0]), [1])
        self.assertEqual(is_feasible(10, [10] * 7, [6, 5, 4, 3, 2, 1, 6]), [0])

    def test_capacity_1(self):
        self.assertEqual(is_feasible(1, [1], [0]), [1])
        self.assertEqual(is_feasible(1, [1, 1], [0, 1]), [1])
        self.assertEqual(is_feasible(1, [1, 1], [0, 0]), [0])

    def test_capacity_100_with_lengths_1_and_100(self):
        self.assertEqual(is_feasible(100, [100], [0]), [1])
        self.assertEqual(is_feasible(100, [100, 1], [0, 1]), [1])
        self.assertEqual(is_feasible(100, [100, 1], [0, 0]), [0])
        self.assertEqual(is_feasible(100, [99, 1], [0, 0]), [1])
        self.assertEqual(is_feasible(100, [100] * 7, [0] * 7), [0])

    def test_pallet_as_long_as_the_capacity(self):
        self.assertEqual(is_feasible(10, [10, 1], [0, 1]), [1])
        self.assertEqual(is_feasible(10, [10, 1], [0, 0]), [0])
        self.assertEqual(is_feasible(9, [1, 9], [4, 4]), [0])

    def test_pallet_of_half_the_capacity(self):
        self.assertEqual(is_feasible(10, [5, 5], [0, 0]), [1])
        self.assertEqual(is_feasible(10, [5, 5, 5], [0, 0, 0]), [0])
        self.assertEqual(is_feasible(9, [5, 4], [0, 0]), [1])
        self.assertEqual(is_feasible(9, [5, 5], [0, 0]), [0])

    def test_other_errors_come_before_that_of_the_assignment(self):
        for assignment in ([], [100], [GREATEST], [0, 0], [0] * 12, [GREATEST] * 12):
            self.assertEqual(is_feasible(5, [6], assignment), [-33])
            self.assertEqual(is_feasible(5, [1, 2, 6], assignment), [-33])
            self.assertEqual(is_feasible(5, [101], assignment), [-22])
            self.assertEqual(is_feasible(5, [6, 0], assignment), [-22])
            self.assertEqual(is_feasible(0, [6], assignment), [-22])
            self.assertEqual(is_feasible(5, [6] * 12, assignment), [-22])

    def test_every_assignment_of_short_inputs(self):
        for capacity, lengths in short_inputs():
            if len(lengths) <= 3:
                for assignment in product(range(4), repeat=len(lengths)):
                    self.check_reckoned(capacity, lengths, list(assignment))

    def test_every_canonical_assignment_of_some_long_inputs(self):
        seen = []
        for capacity, lengths in list(long_inputs())[::30]:
            for assignment in canonical_assignments(len(lengths)):
                seen.append(self.check_reckoned(capacity, lengths, assignment))
        self.assertGreater(min(seen.count(0), seen.count(1)), 1000)

    def test_scattered_assignments_of_many_inputs(self):
        numbers = scattered_numbers()
        seen = []
        for capacity, lengths in many_inputs():
            for trucks in (2, 3, 4, 7, 100):
                assignment = [next(numbers) % trucks for _ in lengths]
                seen.append(self.check_reckoned(capacity, lengths, assignment))
        self.assertGreater(min(seen.count(0), seen.count(1)), 1000)


if __name__ == "__main__":
    unittest.main()

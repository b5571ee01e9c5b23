"""Requirements 1 to 5: what the document asks over all inputs."""

import unittest
from itertools import product

from loading_checks import (
    ASSIGNING,
    HEURISTICS,
    fewest_trucks,
    is_feasible_assignment,
    long_inputs,
    many_inputs,
    number_of_trucks,
    short_inputs,
)
from truckfill.loading import (
    first_fit,
    first_fit_decreasing,
    is_feasible,
    lower_bounds,
    min_capacity,
    minimal_assignment,
    threshold_bound,
)


class RequirementTest(unittest.TestCase):
    def test_requirement_1_no_assignment_that_uses_each_of_its_trucks_has_fewer(self):
        for capacity, lengths in short_inputs():
            fewest = minimal_assignment(capacity, lengths)[0]
            for assignment in product(range(len(lengths)), repeat=len(lengths)):
                if len(set(assignment)) == number_of_trucks(assignment) < fewest:
                    where = (capacity, lengths, assignment)
                    self.assertFalse(is_feasible_assignment(*where), where)
                    self.assertEqual(is_feasible(capacity, lengths, list(assignment)), [0], where)

    def test_requirement_1_fewest_trucks(self):
        for capacity, lengths in many_inputs():
            trucks = minimal_assignment(capacity, lengths)[0]
            self.assertEqual(trucks, fewest_trucks(capacity, lengths), (capacity, lengths))

    def test_requirement_2_the_bounds_the_fewest_trucks_and_the_heuristics(self):
        for capacity, lengths in many_inputs():
            where = (capacity, lengths)
            length_bound, best_bound = lower_bounds(capacity, lengths)
            fewest = fewest_trucks(capacity, lengths)
            self.assertLessEqual(length_bound, best_bound, where)
            self.assertLessEqual(best_bound, fewest, where)
            for heuristic in HEURISTICS:
                self.assertLessEqual(fewest, heuristic(capacity, lengths)[0], where)
            self.assertEqual(fewest, minimal_assignment(capacity, lengths)[0], where)

    def test_requirement_2_every_threshold_bound_is_at_most_the_fewest_trucks(self):
        for capacity, lengths in many_inputs():
            bounds = []
            for threshold in range(capacity // 2 + 1):
                bounds += threshold_bound(capacity, threshold, lengths)
            self.assertLessEqual(max(bounds), fewest_trucks(capacity, lengths), (capacity, lengths))
            self.assertGreaterEqual(min(bounds), 0, (capacity, lengths))
            self.assertEqual(lower_bounds(capacity, lengths)[1], max(bounds), (capacity, lengths))

    def test_requirement_3_first_fit_decreasing_against_the_fewest_trucks(self):
        for capacity, lengths in many_inputs():
            trucks = first_fit_decreasing(capacity, lengths)[0]
            self.assertLessEqual(2 * trucks, 3 * fewest_trucks(capacity, lengths), (capacity, lengths))
            self.assertLessEqual(2 * trucks, 3 * minimal_assignment(capacity, lengths)[0], (capacity, lengths))

    def test_requirement_3_first_fit_with_at_least_two_trucks(self):
        for capacity, lengths in many_inputs():
            trucks = first_fit(capacity, lengths)[0]
            if trucks >= 2:
                self.assertLess(capacity * trucks, 2 * sum(lengths), (capacity, lengths))

    def test_requirements_1_and_4_all_assignments_are_feasible(self):
        for function in ASSIGNING:
            for capacity, lengths in many_inputs():
                trucks, *assignment = function(capacity, lengths)
                where = (function.__name__, capacity, lengths)
                self.assertEqual(len(assignment), len(lengths), where)
                self.assertEqual(trucks, number_of_trucks(assignment), where)
                self.assertTrue(is_feasible_assignment(capacity, lengths, assignment), where)
                self.assertEqual(is_feasible(capacity, lengths, assignment), [1], where)

    def test_requirement_5_a_greater_capacity_never_needs_more_trucks(self):
        # Every 7th of the long inputs: each is asked with up to 100 capacities.
        for capacity, lengths in list(short_inputs()) + list(long_inputs())[::7]:
            fewest = minimal_assignment(capacity, lengths)[0]
            for greater in range(capacity + 1, min(100, sum(lengths) + 1) + 1):
                trucks = minimal_assignment(greater, lengths)[0]
                self.assertLessEqual(trucks, fewest, (greater, lengths))
                fewest = trucks

    def test_requirement_5_every_capacity_from_the_smallest_on_is_enough(self):
        for capacity, lengths in list(short_inputs()) + list(long_inputs())[::7]:
            for truck_limit in range(1, len(lengths) + 1):
                smallest = min_capacity(truck_limit, lengths)[0]
                if smallest != -33:
                    for greater in {smallest, smallest + 1, (smallest + 100) // 2, 100} & set(range(101)):
                        trucks = minimal_assignment(greater, lengths)[0]
                        self.assertIn(trucks, range(truck_limit + 1), (greater, lengths))


if __name__ == "__main__":
    unittest.main()

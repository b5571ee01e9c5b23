"""Requirements 3 and 4: what the document asks of the heuristics over all inputs."""

import unittest

from loading_checks import HEURISTICS, fewest_trucks, many_inputs, truck_loads
from truckfill.loading import first_fit, first_fit_decreasing


class RequirementTest(unittest.TestCase):
    def test_requirement_3_first_fit_decreasing_against_the_fewest_trucks(self):
        for capacity, lengths in many_inputs():
            trucks = first_fit_decreasing(capacity, lengths)[0]
            fewest = fewest_trucks(capacity, lengths)
            self.assertLessEqual(2 * trucks, 3 * fewest, (capacity, lengths))

    def test_requirement_3_first_fit_with_at_least_two_trucks(self):
        for capacity, lengths in many_inputs():
            trucks = first_fit(capacity, lengths)[0]
            if trucks >= 2:
                self.assertLess(capacity * trucks, 2 * sum(lengths), (capacity, lengths))

    def test_requirement_4_both_are_feasible(self):
        for heuristic in HEURISTICS:
            for capacity, lengths in many_inputs():
                trucks, *assignment = heuristic(capacity, lengths)
                loads = truck_loads(lengths, assignment)
                where = (heuristic.__name__, capacity, lengths)
                self.assertEqual(len(assignment), len(lengths), where)
                self.assertEqual(trucks, len(loads), where)
                self.assertLessEqual(max(loads, default=0), capacity, where)


if __name__ == "__main__":
    unittest.main()

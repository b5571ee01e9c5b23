"""min_capacity: example, ordinary inputs, named edges, wrong inputs, and a plain search."""

import unittest

from loading_checks import GREATEST, many_inputs, many_lengths, searched_min_capacities
from truckfill.loading import first_fit_decreasing, min_capacity, minimal_assignment


class MinCapacityTest(unittest.TestCase):
    def check(self, lengths, expected):
        """Check the answers for the truck limits from 0 on."""
        answers = [min_capacity(truck_limit, lengths) for truck_limit in range(len(expected))]
        self.assertEqual(answers, [[number] for number in expected])

    def test_example_of_the_document(self):
        self.assertEqual(min_capacity(3, [5, 4, 3, 6, 2]), [7])

    def test_ordinary_inputs(self):
        self.check([5, 4, 3, 6, 2], [-33, 20, 10, 7, 6, 6, 6])
        self.check([7, 2, 8, 3, 1, 9, 2], [-33, 32, 16, 11, 9, 9, 9, 9, 9])
        self.check([20, 40, 25, 10, 30], [-33, -33, 65, 45, 40, 40, 40])

    def test_one_pallet(self):
        for length in (1, 2, 50, 99, 100):
            self.check([length], [-33, length, length, length])

    def test_less_than_first_fit_decreasing_needs(self):
        self.assertEqual(first_fit_decreasing(7, [2, 2, 2, 2, 3, 3])[0], 3)
        self.assertEqual(min_capacity(2, [2, 2, 2, 2, 3, 3]), [7])

    def test_more_than_the_sum_of_lengths_alone_asks(self):
        self.assertEqual(min_capacity(2, [4, 4, 4]), [8])
        self.assertEqual(min_capacity(2, [6, 3, 1]), [6])
        self.assertEqual(min_capacity(3, [5, 5, 5, 5]), [10])

    def test_no_pallets(self):
        for truck_limit in (0, 1, 2, 7, 100, GREATEST):
            self.assertEqual(min_capacity(truck_limit, []), [1])

    def test_truck_limit_0_with_pallets(self):
        for lengths in ([1], [100], [5, 4, 3, 6, 2], [1] * 7, [100] * 7):
            self.assertEqual(min_capacity(0, lengths), [-33])

    def test_truck_limit_1_with_a_sum_of_just_100_and_of_101(self):
        for lengths in ([50, 50], [99, 1], [20, 30, 50], [14, 14, 14, 14, 14, 14, 16]):
            self.assertEqual(sum(lengths), 100)
            self.assertEqual(min_capacity(1, lengths), [100])
            for pallet in range(len(lengths)):
                longer = list(lengths)
                longer[pallet] += 1
                self.assertEqual(min_capacity(1, longer), [-33])
        self.assertEqual(min_capacity(1, [100]), [100])
        self.assertEqual(min_capacity(1, [100, 1]), [-33])

    def test_truck_limit_1_is_answered_with_the_sum(self):
        self.assertEqual(min_capacity(1, [1, 1]), [2])
        self.assertEqual(min_capacity(1, [1, 2, 3, 4, 5, 6, 7]), [28])
        self.assertEqual(min_capacity(1, [33, 33, 33]), [99])

    def test_truck_limit_2_with_loads_of_just_100_and_of_101(self):
        self.assertEqual(min_capacity(2, [60, 40, 70, 30]), [100])
        self.assertEqual(min_capacity(2, [60, 41, 70, 30]), [-33])
        self.assertEqual(min_capacity(2, [60, 41, 70, 29]), [-33])
        self.assertEqual(min_capacity(2, [51, 51, 51]), [-33])
        self.assertEqual(min_capacity(2, [50, 50, 51]), [100])

    def test_truck_limit_as_great_as_the_number_of_pallets_and_greater(self):
        for lengths in ([3], [5, 4], [5, 4, 3, 6, 2], [1] * 7, [100] * 7, [1, 100, 2, 99, 3, 98, 4]):
            for truck_limit in (len(lengths), len(lengths) + 1, 100, 101, 65536, GREATEST):
                self.assertEqual(min_capacity(truck_limit, lengths), [max(lengths)])

    def test_one_truck_fewer_than_pallets(self):
        self.assertEqual(min_capacity(6, [4] * 7), [8])
        self.assertEqual(min_capacity(6, [1, 2, 3, 4, 5, 6, 7]), [7])
        self.assertEqual(min_capacity(4, [5, 5, 5, 5, 6]), [10])

    def test_seven_pallets_of_length_100(self):
        self.check([100] * 7, [-33] * 7 + [100, 100])

    def test_lengths_1_and_100(self):
        self.check([1, 1], [-33, 2, 1, 1])
        self.check([1] * 7, [-33, 7, 4, 3, 2, 2, 2, 1, 1])
        self.check([100, 1], [-33, -33, 100, 100])
        self.check([1, 99, 100], [-33, -33, 100, 100, 100])
        self.check([99, 1], [-33, 100, 99, 99])

    def test_pallets_of_the_same_length(self):
        self.check([9] * 5, [-33, 45, 27, 18, 18, 9, 9])

    def test_the_order_of_the_pallets_makes_no_difference(self):
        for truck_limit in range(6):
            expected = min_capacity(truck_limit, [5, 4, 3, 6, 2])
            self.assertEqual(min_capacity(truck_limit, [6, 5, 4, 3, 2]), expected)
            self.assertEqual(min_capacity(truck_limit, [2, 3, 4, 5, 6]), expected)

    def test_too_many_pallets(self):
        for count in range(8, 13):
            for truck_limit in (0, 1, 7, count, GREATEST):
                self.assertEqual(min_capacity(truck_limit, [1] * count), [-22])

    def test_length_out_of_range(self):
        for length in (0, 101, 102, 65536, GREATEST):
            for truck_limit in (0, 1, 2, 7, GREATEST):
                self.assertEqual(min_capacity(truck_limit, [length]), [-22])
                self.assertEqual(min_capacity(truck_limit, [length, 5, 4]), [-22])
                self.assertEqual(min_capacity(truck_limit, [5, length, 4]), [-22])
                self.assertEqual(min_capacity(truck_limit, [5, 4, length]), [-22])

    def test_out_of_range_comes_before_no_such_capacity(self):
        self.assertEqual(min_capacity(0, [0]), [-22])
        self.assertEqual(min_capacity(0, [101]), [-22])
        self.assertEqual(min_capacity(0, [1] * 8), [-22])
        self.assertEqual(min_capacity(1, [101]), [-22])
        self.assertEqual(min_capacity(1, [60, 60, 0]), [-22])
        self.assertEqual(min_capacity(1, [100] * 8), [-22])
        self.assertEqual(min_capacity(1, [GREATEST] * 12), [-22])

    def test_answers_as_a_search_through_all_capacities(self):
        for lengths in many_lengths():
            limits = list(range(len(lengths) + 2)) + [GREATEST]
            for truck_limit, found in zip(limits, searched_min_capacities(lengths, limits)):
                answer = min_capacity(truck_limit, lengths)
                self.assertEqual(answer, [-33 if found is None else found], (truck_limit, lengths))

    def test_agrees_with_minimal_assignment(self):
        for lengths in many_lengths():
            for truck_limit in range(1, 8):
                answer = min_capacity(truck_limit, lengths)[0]
                greatest_too_small = 100 if answer == -33 else answer - 1
                if greatest_too_small >= max(lengths, default=1):
                    trucks = minimal_assignment(greatest_too_small, lengths)[0]
                    self.assertGreater(trucks, truck_limit, (truck_limit, lengths))
                if answer != -33:
                    trucks = minimal_assignment(answer, lengths)[0]
                    self.assertIn(trucks, range(truck_limit + 1), (truck_limit, lengths))

    def test_a_capacity_is_enough_for_as_many_trucks_as_it_needs(self):
        for capacity, lengths in many_inputs():
            trucks = minimal_assignment(capacity, lengths)[0]
            self.assertIn(min_capacity(trucks, lengths)[0], range(1, capacity + 1), (capacity, lengths))


if __name__ == "__main__":
    unittest.main()

"""The examples of the document, all of them, each call by itself."""

import unittest

from loading_checks import PARAMETERS
from truckfill import loading

LENGTHS = [5, 4, 3, 6, 2]

EXAMPLES = (
    ("first_fit", (10, LENGTHS), [3, 0, 0, 1, 1, 2]),
    ("first_fit_decreasing", (10, LENGTHS), [2, 1, 0, 1, 0, 1]),
    ("minimal_assignment", (10, LENGTHS), [2, 0, 1, 0, 1, 0]),
    ("lower_bounds", (10, LENGTHS), [2, 2]),
    ("threshold_bound", (10, 4, LENGTHS), [2]),
    ("is_feasible", (10, LENGTHS, [0, 1, 0, 1, 0]), [1]),
    ("min_capacity", (3, LENGTHS), [7]),
    ("first_fit", (5, LENGTHS), [-33]),
)


class ExamplesTest(unittest.TestCase):
    def test_every_function_has_an_example(self):
        self.assertEqual({name for name, arguments, expected in EXAMPLES}, {f.__name__ for f in PARAMETERS})

    def test_examples(self):
        for name, arguments, expected in EXAMPLES:
            self.assertEqual(getattr(loading, name)(*arguments), expected, name)

    def test_examples_after_one_another(self):
        for name, arguments, expected in EXAMPLES:
            for other, other_arguments, other_expected in EXAMPLES:
                self.assertEqual(getattr(loading, other)(*other_arguments), other_expected, other)
                self.assertEqual(getattr(loading, name)(*arguments), expected, (other, name))


if __name__ == "__main__":
    unittest.main()

"""What stands behind the list of functions: kinds, no change, nothing kept, nothing printed."""

import ast
import contextlib
import inspect
import io
import pathlib
import unittest

import truckfill
from loading_checks import ASSIGNING, FUNCTIONS, WatchedList, many_inputs
from truckfill.loading import lower_bounds

REQUESTS = (
    (10, [5, 4, 3, 6, 2]),
    (10, [2, 3, 6, 7]),
    (10, []),
    (100, [1, 100, 99, 1, 100, 50, 50]),
    (0, [5, 4]),
    (10, [5, 0, 4]),
    (10, [1, 2, 3, 4, 5, 6, 7, 8, 9, 10, 1, 2]),
    (5, [5, 4, 3, 6, 2]),
)


class InterfaceTest(unittest.TestCase):
    def test_arguments_by_their_names(self):
        for function in FUNCTIONS:
            self.assertEqual(list(inspect.signature(function).parameters), ["capacity", "lengths"])
            self.assertEqual(function(lengths=[4, 7], capacity=10), function(10, [4, 7]))

    def test_answers_are_lists_of_whole_numbers(self):
        for function in FUNCTIONS:
            for capacity, lengths in REQUESTS:
                answer = function(capacity, lengths)
                self.assertIs(type(answer), list)
                self.assertEqual({type(number) for number in answer}, {int})

    def test_only_a_lone_error_code_is_below_0(self):
        for function in FUNCTIONS:
            for capacity, lengths in REQUESTS:
                answer = function(capacity, lengths)
                if answer[0] < 0:
                    self.assertEqual(len(answer), 1)
                else:
                    self.assertGreaterEqual(min(answer), 0)

    def test_as_many_numbers_as_the_interface_tells(self):
        for capacity, lengths in REQUESTS:
            for function in ASSIGNING:
                answer = function(capacity, lengths)
                if answer[0] >= 0:
                    self.assertEqual(len(answer), 1 + len(lengths))
            answer = lower_bounds(capacity, lengths)
            if answer[0] >= 0:
                self.assertEqual(len(answer), 2)

    def test_the_list_handed_in_is_afterwards_as_it_was(self):
        for function in FUNCTIONS:
            for capacity, lengths in list(many_inputs()) + list(REQUESTS):
                handed_in = list(lengths)
                function(capacity, handed_in)
                self.assertEqual(handed_in, lengths)

    def test_the_list_handed_in_is_not_changed_for_a_while_either(self):
        for function in FUNCTIONS:
            for capacity, lengths in REQUESTS:
                function(capacity, WatchedList(lengths))

    def test_two_calls_answer_the_same(self):
        for function in FUNCTIONS:
            for capacity, lengths in list(many_inputs()) + list(REQUESTS):
                self.assertEqual(function(capacity, lengths), function(capacity, lengths))

    def test_nothing_is_kept_from_one_call_to_the_next(self):
        for function in FUNCTIONS:
            alone = [function(capacity, lengths) for capacity, lengths in REQUESTS]
            for other in FUNCTIONS:
                for capacity, lengths in REQUESTS:
                    other(capacity, lengths)
                    again = [function(*request) for request in REQUESTS]
                    self.assertEqual(again, alone)

    def test_an_answer_that_is_changed_does_not_change_the_next(self):
        for function in FUNCTIONS:
            for capacity, lengths in REQUESTS:
                first = function(capacity, lengths)
                kept = list(first)
                first.append(7)
                first[0] = 99
                self.assertEqual(function(capacity, lengths), kept)

    def test_prints_nothing(self):
        printed = io.StringIO()
        with contextlib.redirect_stdout(printed), contextlib.redirect_stderr(printed):
            for function in FUNCTIONS:
                for capacity, lengths in REQUESTS:
                    function(capacity, lengths)
        self.assertEqual(printed.getvalue(), "")

    def test_imports_and_reads_nothing_from_outside(self):
        for path in pathlib.Path(truckfill.__file__).parent.glob("*.py"):
            for node in ast.walk(ast.parse(path.read_text(encoding="utf-8"))):
                self.assertNotIsInstance(node, ast.Import, path)
                if isinstance(node, ast.ImportFrom):
                    self.assertTrue(node.module.startswith("truckfill."), path)
                if isinstance(node, ast.Name):
                    self.assertNotIn(node.id, ("print", "input", "open"), path)


if __name__ == "__main__":
    unittest.main()

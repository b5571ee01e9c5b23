"""What stands behind the list of functions: kinds, no change, nothing kept, nothing printed."""

import ast
import contextlib
import copy
import inspect
import io
import pathlib
import unittest

import truckfill
from loading_checks import ASSIGNING, PARAMETERS, WatchedList, calls_with, many_inputs
from truckfill.loading import lower_bounds

REQUESTS = (
    (10, [5, 4, 3, 6, 2]),
    (10, [2, 3, 6, 7]),
    (10, []),
    (100, [1, 100, 99, 1, 100, 50, 50]),
    (0, [5, 4]),
    (10, [5, 0, 4]),
    (10, [1, 2, 3, 4, 5, 6, 7, 8, 9, 10, 1, 2]),
    (5, [5, 4, 3, 6, 2]),
)


CALLS = [call for request in REQUESTS for call in calls_with(*request)]


def many_calls():
    for capacity, lengths in many_inputs():
        yield from calls_with(capacity, lengths)
    yield from CALLS


class InterfaceTest(unittest.TestCase):
    def test_arguments_by_their_names(self):
        for function, names in PARAMETERS.items():
            self.assertEqual(list(inspect.signature(function).parameters), names)
        for function, arguments in CALLS:
            named = dict(zip(PARAMETERS[function], arguments))
            self.assertEqual(function(**named), function(*arguments))

    def test_every_function_is_called(self):
        self.assertEqual({function for function, arguments in CALLS}, set(PARAMETERS))

    def test_answers_are_lists_of_whole_numbers(self):
        for function, arguments in CALLS:
            answer = function(*arguments)
            self.assertIs(type(answer), list)
            self.assertEqual({type(number) for number in answer}, {int})

    def test_only_a_lone_error_code_is_below_0(self):
        for function, arguments in CALLS:
            answer = function(*arguments)
            if answer[0] < 0:
                self.assertEqual(len(answer), 1)
            else:
                self.assertGreaterEqual(min(answer), 0)

    def test_as_many_numbers_as_the_interface_tells(self):
        for function, arguments in CALLS:
            expected = 1
            if function in ASSIGNING:
                expected = 1 + len(arguments[1])
            if function == lower_bounds:
                expected = 2
            answer = function(*arguments)
            if answer[0] >= 0:
                self.assertEqual(len(answer), expected)

    def test_what_is_handed_in_is_afterwards_as_it_was(self):
        for function, arguments in many_calls():
            handed_in = copy.deepcopy(arguments)
            function(*handed_in)
            self.assertEqual(handed_in, arguments)

    def test_what_is_handed_in_is_not_changed_for_a_while_either(self):
        for function, arguments in CALLS:
            function(*[WatchedList(item) if isinstance(item, list) else item for item in arguments])

    def test_two_calls_answer_the_same(self):
        for function, arguments in many_calls():
            self.assertEqual(function(*arguments), function(*arguments))

    def test_nothing_is_kept_from_one_call_to_the_next(self):
        alone = [function(*arguments) for function, arguments in CALLS]
        for other, other_arguments in CALLS:
            other(*other_arguments)
            again = [function(*arguments) for function, arguments in CALLS]
            self.assertEqual(again, alone)

    def test_an_answer_that_is_changed_does_not_change_the_next(self):
        for function, arguments in CALLS:
            first = function(*arguments)
            kept = list(first)
            first.append(7)
            first[0] = 99
            self.assertEqual(function(*arguments), kept)

    def test_prints_nothing(self):
        printed = io.StringIO()
        with contextlib.redirect_stdout(printed), contextlib.redirect_stderr(printed):
            for function, arguments in CALLS:
                function(*arguments)
        self.assertEqual(printed.getvalue(), "")

    def test_imports_and_reads_nothing_from_outside(self):
        for path in pathlib.Path(truckfill.__file__).parent.glob("*.py"):
            for node in ast.walk(ast.parse(path.read_text(encoding="utf-8"))):
                self.assertNotIsInstance(node, ast.Import, path)
                if isinstance(node, ast.ImportFrom):
                    self.assertTrue(node.module.startswith("truckfill."), path)
                if isinstance(node, ast.Name):
                    self.assertNotIn(node.id, ("print", "input", "open"), path)


if __name__ == "__main__":
    unittest.main()

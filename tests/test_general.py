"""Points 2, 3 and 20 for every function: names, forms of arguments, kinds of results, arguments unchanged."""

import ast
import importlib
import inspect
import unittest
from copy import deepcopy
from pathlib import Path

from tests.support import ERRORS, FUNCTIONS, as_lists, has_list, inner_lists, mixed_lists, outer_list
from undermasters.errors import NoNumber

PACKAGE = Path(__file__).resolve().parent.parent / "undermasters"

COMMON = ((0, 0, 0), (0, 1, 0))
SOME = ((1, 0, 0), (1, 2, 0), (2, 2, 1))
LEAST = ((0, 0, 0), (0, 1, 0), (0, 2, 1), (1, 1, 1))
GATE = ((0, 1), (0, 2))
FAR = ((1, 2), (2,))
OFF = ((0,), (1,))

# For each function calls with tuples wherever the document states tuples.
CALLS = {
    "is_depths": [{"thing": (4, 4, 3)}, {"thing": (4, 1)}, {"thing": [4, 4]}],
    "is_key": [{"depths": (4, 4, 3), "thing": thing} for thing in ((3, 3, 2), (3, 3, 3), [3, 3, 2])],
    "is_keys": [{"depths": (4, 4, 3), "thing": thing} for thing in (SOME, SOME[::-1], list(SOME), (), ([1, 0, 0],))],
    "how_many_keys": [{"depths": (4, 4, 3)}],
    "nth_key": [{"depths": (4, 4, 3), "number": number} for number in (0, 31, 47, 48, -1)],
    "number_of_key": [{"depths": (4, 4, 3), "key": (2, 3, 1)}],
    "common_cuts": [{"common": COMMON}],
    "free_pins": [{"common": COMMON, "key": (2, 1, 2)}, {"common": COMMON, "key": (0, 0, 0)}],
    "rank": [{"common": COMMON, "key": (2, 1, 2)}],
    "row_of": [{"common": COMMON, "key": (2, 1, 2)}],
    "alike": [{"common": COMMON, "one": (2, 1, 2), "other": other} for other in ((2, 0, 2), (2, 2, 2))],
    "opens_room": [{"common": COMMON, "one": (2, 1, 0), "other": other} for other in ((2, 3, 2), (1, 3, 2))],
    "barring_pin": [{"common": COMMON, "one": (2, 3, 0), "other": other} for other in ((2, 3, 2), (2, 1, 0))],
    "openers_of": [{"common": COMMON, "keys": SOME, "key": key} for key in ((1, 2, 1), (1, 2, 0), (3, 3, 2))],
    "opened_by": [{"common": COMMON, "keys": SOME, "key": key} for key in ((1, 1, 0), (1, 2, 0), (3, 3, 2))],
    "clash": [{"common": COMMON, "keys": keys} for keys in (SOME, SOME[1:], ())],
    "is_door": [{"depths": (3, 3), "thing": thing} for thing in (GATE, list(GATE), ([0, 1], (0, 2)), ((0, 3), (1,)))],
    "door_for": [{"keys": SOME}, {"keys": SOME[:1]}],
    "opens": [{"door": GATE, "key": key} for key in ((0, 2), (2, 0))],
    "pin_that_bars": [{"door": GATE, "key": key} for key in ((0, 2), (0, 1))],
    "both": [{"door": GATE, "other": FAR}, {"door": FAR, "other": OFF}],
    "within": [{"door": GATE, "other": FAR}, {"door": ((0,), (0, 2)), "other": GATE}],
    "how_many_open": [{"door": GATE}],
    "how_many_strays": [{"keys": SOME}],
    "how_many_some": [{"doors": (GATE, FAR, OFF)}],
    "how_many_all": [{"doors": (GATE, FAR)}, {"doors": (GATE, FAR, OFF)}, {"doors": (GATE,)}],
    "how_many_just": [{"depths": (3, 3), "doors": (GATE, FAR), "number": number} for number in (-1, 0, 1, 2, 3)],
    "nth_opener": [{"door": GATE, "number": number} for number in (0, 3, 4, -1)],
    "number_of_opener": [{"door": GATE, "key": key} for key in ((1, 0), (2, 0))],
    "nth_of_some": [{"doors": (GATE, FAR), "number": number} for number in (0, 3, 4, 5, -1)],
    "givers": [{"keys": LEAST, "key": (0, 2, 0)}, {"keys": (), "key": (0, 2, 0)}],
    "fewest_makers": [{"keys": LEAST, "key": key} for key in ((0, 2, 0), (1, 0, 1), (2, 2, 2))],
}


def outcome(function, *told, **named):
    """What the call returns, written out, or the number of its NoNumber."""
    try:
        return repr(function(*told, **named))
    except NoNumber as error:
        return f"no number {error.number!r}"


def in_form(form, named):
    """The arguments with lists as this form puts them; a thing stays as it is."""
    return {name: value if name == "thing" else form(value) for name, value in named.items()}


class EveryFunction(unittest.TestCase):

    def each_call(self):
        """All pairs of a function and of the arguments of one call, by name."""
        calls = []
        for file, functions in FUNCTIONS.items():
            for name in functions:
                function = getattr(importlib.import_module(f"undermasters.{file}"), name)
                calls.extend([(function, named) for named in CALLS[name]])
        return calls

    def test_calls_for_each_function(self):
        self.assertEqual(list(CALLS), [name for functions in FUNCTIONS.values() for name in functions])

    def test_by_position_and_by_name(self):
        for function, named in self.each_call():
            expected = outcome(function, *named.values())
            self.assertEqual(outcome(function, **named), expected, (function, named))
            self.assertEqual(outcome(function, **dict(list(named.items())[::-1])), expected, (function, named))

    def test_lists_for_tuples(self):
        for function, named in self.each_call():
            expected = outcome(function, **named)
            for form in (as_lists, outer_list, inner_lists, mixed_lists):
                told = in_form(form, named)
                self.assertEqual(outcome(function, **told), expected, (function, told))
                self.assertEqual(outcome(function, *told.values()), expected, (function, told))

    def test_lists_for_single_arguments(self):
        for function, named in self.each_call():
            expected = outcome(function, **named)
            for name in named:
                if name != "thing":
                    told = {**named, name: as_lists(named[name])}
                    self.assertEqual(outcome(function, **told), expected, (function, told))

    def test_arguments_stay_as_they_were(self):
        for function, named in self.each_call():
            for form in (deepcopy, as_lists, outer_list, inner_lists, mixed_lists):
                told = in_form(form, named)
                before = repr(told)
                outcome(function, **told)
                self.assertEqual(repr(told), before, function)

    def test_no_lists_in_results(self):
        for function, named in self.each_call():
            try:
                result = function(**in_form(as_lists, named))
            except NoNumber:
                continue
            self.assertFalse(has_list(result), (function, named, result))

    def test_same_again(self):
        for function, named in self.each_call():
            self.assertEqual(outcome(function, **named), outcome(function, **named), function)

    def test_whether_is_told_by_bools(self):
        for function, named in self.each_call():
            if function.__name__.startswith("is_") or function.__name__ in ("alike", "opens_room", "opens", "within"):
                self.assertIsInstance(function(**named), bool, function)


class Interface(unittest.TestCase):

    def test_names_and_arguments(self):
        for file, functions in FUNCTIONS.items():
            module = importlib.import_module(f"undermasters.{file}")
            for name, parameters in functions.items():
                signature = inspect.signature(getattr(module, name))
                self.assertEqual(list(signature.parameters), parameters, name)
                for parameter in signature.parameters.values():
                    self.assertEqual(parameter.kind, parameter.POSITIONAL_OR_KEYWORD, name)
                    self.assertEqual(parameter.default, parameter.empty, name)

    def test_defined_in_their_files(self):
        for file, names in {**FUNCTIONS, "errors": ERRORS}.items():
            body = ast.parse((PACKAGE / f"{file}.py").read_text(encoding="ascii")).body
            defined = [node.name for node in body if isinstance(node, (ast.FunctionDef, ast.ClassDef))]
            self.assertEqual([name for name in names if name not in defined], [], file)


if __name__ == "__main__":
    unittest.main()

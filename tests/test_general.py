"""Points 2, 3 and 20 for every function: names, forms of arguments, kinds of results, arguments unchanged."""

import ast
import importlib
import inspect
import unittest
from copy import deepcopy
from pathlib import Path
from random import Random

from tests.support import ERRORS, FUNCTIONS, METHODS, as_lists, has_list, inner_lists, mixed_lists, other_mixed_lists
from tests.support import outer_list
from undermasters import board, errors

PACKAGE = Path(__file__).resolve().parent.parent / "undermasters"

COMMON = ((0, 0, 0), (0, 1, 0))
SOME = ((1, 0, 0), (1, 2, 0), (2, 2, 1))
LEAST = ((0, 0, 0), (0, 1, 0), (0, 2, 1), (1, 1, 1))
GATE = ((0, 1), (0, 2))
FAR = ((1, 2), (2,))
OFF = ((0,), (1,))
PEOPLE = (("ann", (0, 0)), ("bob", (1, 2)), ("cy", (0, 2)), ("dee", (2, 1)))
ROOMS = (("attic", ("ann", "bob")), ("den", ("cy",)), ("hut", ("bob", "cy", "dee")))
HALL = ((3, 3), PEOPLE, ROOMS)
LOCK = (4, 4, 3)
HOUSE = {"depths": LOCK, "common": COMMON}
OWN = ((1, 0, 1), (1, 2, 0), (2, 0, 2))
LOUD = ((0, 1, 1), (1, 0, 1), (2, 0, 0), (2, 1, 0), (2, 2, 1))
WORN = (1, 0, 0)
WORN_OWN = ((0, 2, 2), (0, 3, 2), (3, 0, 0))
HOME = ((3, 3), PEOPLE, (("attic", ("ann", "bob")), ("den", ("cy",)), ("hut", ("bob", "cy", "dee"))))
LONE = ((3, 3), PEOPLE[:1], (("den", ("ann",)),))
GRAND = ((0, 0, 0),)
WINGS = (("east", ((0, 0, 1),), ((2, 2, 2), (2, 3, 2))), ("west", ((0, 1, 0), (0, 2, 0)), ((3, 2, 2),)))
BARE = (("a", (), ((1, 1, 1),)), ("b", (), ()))
PLAN = "4 4 3\n0-0-0, 0-1-0\n1-0-1, 1-2-0"

# The NAMEs of a person of HOME and of others, also such as are nobody's or this person's own.
LOSSES = (("cy", ("ann",)), ("cy", ()), ("cy", ("bob", "dee")), ("dee", ()), ("eve", ("fay",)), ("cy", ("ann", "cy", "eve")))
STRAYED = (*WINGS, ("yard", ((1, 2, 2),), ((1, 3, 2), (2, 0, 2))))

# For each function calls with tuples wherever the document states tuples.
CALLS = {
    "is_depths": [{"thing": (4, 4, 3)}, {"thing": (4, 1)}, {"thing": [4, 4]}],
    "is_key": [{"depths": (4, 4, 3), "thing": thing} for thing in ((3, 3, 2), (3, 3, 3), [3, 3, 2])],
    "is_keys": [{"depths": (4, 4, 3), "thing": thing} for thing in (SOME, SOME[::-1], list(SOME), (), ([1, 0, 0],))],
    "how_many_keys": [{"depths": (4, 4, 3)}],
    "nth_key": [{"depths": (4, 4, 3), "number": number} for number in (0, 31, 47, 48, -1)],
    "number_of_key": [{"depths": (4, 4, 3), "key": (2, 3, 1)}],
    "common_cuts": [{"common": COMMON}],
    "free_pins": [{"common": COMMON, "key": (2, 1, 2)}, {"common": COMMON, "key": (0, 0, 0)}],
    "rank": [{"common": COMMON, "key": (2, 1, 2)}],
    "row_of": [{"common": COMMON, "key": (2, 1, 2)}],
    "alike": [{"common": COMMON, "one": (2, 1, 2), "other": other} for other in ((2, 0, 2), (2, 2, 2))],
    "opens_room": [{"common": COMMON, "one": (2, 1, 0), "other": other} for other in ((2, 3, 2), (1, 3, 2))],
    "barring_pin": [{"common": COMMON, "one": (2, 3, 0), "other": other} for other in ((2, 3, 2), (2, 1, 0))],
    "openers_of": [{"common": COMMON, "keys": SOME, "key": key} for key in ((1, 2, 1), (1, 2, 0), (3, 3, 2))],
    "opened_by": [{"common": COMMON, "keys": SOME, "key": key} for key in ((1, 1, 0), (1, 2, 0), (3, 3, 2))],
    "clash": [{"common": COMMON, "keys": keys} for keys in (SOME, SOME[1:], ())],
    "is_door": [{"depths": (3, 3), "thing": thing} for thing in (GATE, list(GATE), ([0, 1], (0, 2)), ((0, 3), (1,)))],
    "door_for": [{"keys": SOME}, {"keys": SOME[:1]}],
    "opens": [{"door": GATE, "key": key} for key in ((0, 2), (2, 0))],
    "pin_that_bars": [{"door": GATE, "key": key} for key in ((0, 2), (0, 1))],
    "both": [{"door": GATE, "other": FAR}, {"door": FAR, "other": OFF}],
    "within": [{"door": GATE, "other": FAR}, {"door": ((0,), (0, 2)), "other": GATE}],
    "how_many_open": [{"door": GATE}],
    "how_many_strays": [{"keys": SOME}],
    "how_many_some": [{"doors": (GATE, FAR, OFF)}],
    "how_many_all": [{"doors": (GATE, FAR)}, {"doors": (GATE, FAR, OFF)}, {"doors": (GATE,)}],
    "how_many_just": [{"depths": (3, 3), "doors": (GATE, FAR), "number": number} for number in (-1, 0, 1, 2, 3)],
    "nth_opener": [{"door": GATE, "number": number} for number in (0, 3, 4, -1)],
    "number_of_opener": [{"door": GATE, "key": key} for key in ((1, 0), (2, 0))],
    "nth_of_some": [{"doors": (GATE, FAR), "number": number} for number in (0, 3, 4, 5, -1)],
    "givers": [{"keys": LEAST, "key": (0, 2, 0)}, {"keys": (), "key": (0, 2, 0)}],
    "fewest_makers": [{"keys": LEAST, "key": key} for key in ((0, 2, 0), (1, 0, 1), (2, 2, 2))],
    "is_hall": [{"thing": thing} for thing in (HALL, list(HALL), ((3, 3), list(PEOPLE), ROOMS), ((3, 3), PEOPLE, ()))],
    "door_of": [{"hall": HALL, "room": room} for room in ("hut", "loft")],
    "who_opens": [{"hall": HALL, "room": room} for room in ("attic", "loft")],
    "strangers": [{"hall": HALL, "room": room} for room in ("attic", "hut", "loft")],
    "rooms_of": [{"hall": HALL, "person": person} for person in ("cy", "eve")],
    "strange": [{"hall": HALL}, {"hall": ((3, 3), PEOPLE, ())}],
    "is_kept": [{"hall": HALL}, {"hall": ((3, 3), PEOPLE, ROOMS[1:])}],
    "with_person": [{"hall": HALL, "person": person, "room": room}
                    for person, room in (("dee", "den"), ("cy", "den"), ("eve", "loft"), ("ann", "loft"))],
    "new_strangers": [{"hall": HALL, "person": person, "room": room}
                      for person, room in (("dee", "attic"), ("cy", "attic"), ("eve", "loft"), ("ann", "loft"))],
    "closure": [{"hall": HALL, "names": names} for names in (("ann", "bob"), ("ann",), ("ann", "eve", "fay"))],
    "is_closed": [{"hall": HALL, "names": names} for names in (("ann", "bob"), ("ann",), ("ann", "eve", "fay"))],
    "how_many_closed": [{"hall": HALL}],
    "rank_sizes": [HOUSE],
    "most_rooms": [HOUSE],
    "best_ranks": [HOUSE],
    "most_without_rows": [{**HOUSE, "many": many} for many in (1, 2, 10 ** 40)],
    "nth_room": [{**HOUSE, "free": 2, "number": number} for number in (0, 7, 15, 16, -1)],
    "number_of_room": [{**HOUSE, "key": (2, 1, 1)}],
    "rank_rooms": [{**HOUSE, "free": free} for free in range(4)],
    "keys_like": [{**HOUSE, "key": (2, 1, 1)}],
    "how_many_of_rank": [{**HOUSE, "free": free} for free in range(4)],
    "one_more_pin": [{**HOUSE, "depth": 3}],
    "is_further": [{**HOUSE, "own": OWN, "key": key} for key in ((1, 0, 2), (1, 1, 1), (1, 2, 0))],
    "who_bars": [{**HOUSE, "own": OWN, "key": key} for key in ((1, 0, 2), (0, 1, 0), (1, 2, 1))],
    "how_many_further": [{**HOUSE, "own": OWN}, {**HOUSE, "own": ()}],
    "further_ranks": [{**HOUSE, "own": OWN}, {**HOUSE, "own": ()}],
    "nth_further": [{**HOUSE, "own": OWN, "number": number} for number in (0, 3, 40, -1)],
    "number_of_further": [{**HOUSE, "own": OWN, "key": key} for key in ((1, 0, 2), (1, 1, 1))],
    "best_addition": [{**HOUSE, "own": own} for own in (OWN, OWN[:1], ((0, 1, 0),))],
    "is_quiet": [{**HOUSE, "own": own} for own in (OWN, LOUD, ())],
    "clashes": [{**HOUSE, "own": own} for own in (OWN, LOUD, ())],
    "least_taken_out": [{**HOUSE, "own": own} for own in (OWN, LOUD, ())],
    "share": [{**HOUSE, "own": own} for own in (OWN, LOUD, ())],
    "most_more": [{**HOUSE, "own": own} for own in (OWN, LOUD, ())],
    "is_greatest": [{**HOUSE, "own": own} for own in (OWN, LOUD, ())],
    "is_full": [{**HOUSE, "own": own} for own in (OWN, LOUD, (), ((0, 1, 0),))],
    "share_of_ranks": [{**HOUSE, "counts": counts} for counts in ((0, 3, 2, 1), (0, 0, 0, 0))],
    "can_be_by_share": [{**HOUSE, "counts": counts} for counts in ((0, 3, 2, 1), (1, 1, 0, 0))],
    "ranks_of": [{**HOUSE, "own": own} for own in (OWN, LOUD, ())],
    "most_quiet": [{"common": COMMON, "keys": keys} for keys in (LOUD, OWN, ())],
    "quiet_among": [{"common": COMMON, "keys": keys} for keys in (LOUD, OWN, ())],
    "is_quiet_among": [{"common": COMMON, "keys": LOUD, "thing": thing}
                       for thing in (LOUD[:2], LOUD[1:3], list(LOUD[1:3]), ([0, 1, 1],), ())],
    "cover_rows": [{"common": COMMON, "keys": keys} for keys in (LOUD, OWN, ())],
    "is_opener_row": [{"common": COMMON, "keys": LOUD, "thing": thing}
                      for thing in (LOUD[:2], LOUD[1::-1], list(LOUD[:2]), ([0, 1, 1],), ())],
    "is_row_cover": [{"common": COMMON, "keys": LOUD, "thing": thing}
                     for thing in ((LOUD[:2], LOUD[2:]), [LOUD[:2], LOUD[2:]], (list(LOUD[:2]), LOUD[2:]), (LOUD,), ())],
    "longest_row": [{"common": COMMON, "keys": keys} for keys in (LOUD, OWN)],
    "quiet_cover": [{"common": COMMON, "keys": keys} for keys in (LOUD, OWN, ())],
    "is_quiet_cover": [{"common": COMMON, "keys": LOUD[:3], "thing": thing}
                       for thing in ((LOUD[:1], LOUD[1:3]), [LOUD[:1], LOUD[1:3]], (LOUD[:1], list(LOUD[1:3])), ())],
    "always_in": [{"common": COMMON, "keys": keys} for keys in (LOUD, LOUD[:4], OWN, ())],
    "ever_in": [{"common": COMMON, "keys": keys} for keys in (LOUD, LOUD[:4], OWN, ())],
    "loners": [{"common": COMMON, "keys": keys} for keys in (LOUD[1:], OWN, ())],
    "is_harmless": [{**HOUSE, "own": OWN, "key": key} for key in ((1, 0, 2), (1, 0, 0), (0, 1, 0))],
    "how_many_harmless": [{**HOUSE, "own": OWN}, {**HOUSE, "own": ()}],
    "harmless_ranks": [{**HOUSE, "own": OWN}, {**HOUSE, "own": ()}],
    "nth_harmless": [{**HOUSE, "own": OWN, "number": number} for number in (0, 3, 48, -1)],
    "number_of_harmless": [{**HOUSE, "own": OWN, "key": key} for key in ((1, 0, 2), (1, 0, 0))],
    "is_house_closed": [{**HOUSE, "own": OWN, "private": private} for private in (((1, 0, 2),), LOUD, OWN, ())],
    "breach": [{**HOUSE, "own": OWN, "private": private} for private in (((1, 0, 2),), LOUD, OWN, COMMON, ())],
    "kept_private": [{**HOUSE, "private": LOUD, "key": key} for key in ((2, 2, 1), (0, 1, 0))],
    "is_worn": [{"depths": LOCK, "thing": thing} for thing in (WORN, list(WORN), (1, 0), (10 ** 41, 0, 0), (-1, 0, 0))],
    "opens_worn": [{"common": COMMON, "worn": WORN, "one": (2, 1, 0), "other": other} for other in (WORN_OWN[0], (3, 3, 2))],
    "worn_bar": [{"common": COMMON, "worn": WORN, "one": (2, 1, 0), "other": other} for other in (WORN_OWN[0], (3, 3, 2))],
    "worn_rank": [{"common": COMMON, "worn": WORN, "key": (2, 1, 2)}],
    "sizes": [{**HOUSE, "worn": WORN}],
    "worn_sizes": [{**HOUSE, "worn": WORN}],
    "most_worn": [{**HOUSE, "worn": WORN}],
    "worn_ranks": [{**HOUSE, "worn": WORN}],
    "nth_worn": [{**HOUSE, "worn": WORN, "rank": 2, "number": number} for number in (0, 5, 7, 8, -1)],
    "number_worn": [{**HOUSE, "worn": WORN, "key": key} for key in ((2, 0, 1), (3, 0, 1), (1, 0, 1))],
    "is_worn_quiet": [{"common": COMMON, "worn": worn, "own": own} for worn in (WORN, (1, 1, 1)) for own in (WORN_OWN, ())],
    "worn_clashes": [{"common": COMMON, "worn": worn, "own": own} for worn in (WORN, (1, 1, 1)) for own in (WORN_OWN, ())],
    "worn_share": [{**HOUSE, "worn": WORN, "own": own} for own in (WORN_OWN, LOUD, ())],
    "wears_to": [{"common": COMMON, "own": own} for own in (WORN_OWN, LOUD, WORN_OWN[:1], ())],
    "worn_rest": [{**HOUSE, "worn": WORN, "own": own} for own in (WORN_OWN, ())],
    "without_person": [{"hall": HOME, "person": person} for person in ("cy", "bob", "eve")],
    "still_opens": [{"hall": HOME, "person": person} for person in ("cy", "dee", "eve")] + [{"hall": LONE, "person": "ann"}],
    "is_enough": [{"hall": HOME, "person": person, "names": names} for person, names in LOSSES],
    "shut_by": [{"hall": HOME, "person": person, "names": names} for person, names in LOSSES],
    "fewest_anew": [{"hall": HOME, "person": person} for person in ("cy", "dee", "eve")] + [{"hall": LONE, "person": "ann"}],
    "dearest_losses": [{"hall": HOME}, {"hall": LONE}],
    "doors_anew": [{"hall": HOME, "person": person, "names": names} for person, names in LOSSES],
    "cut_anew": [{"hall": HOME, "person": person, "names": names} for person, names in LOSSES],
    "cost_of": [{**HOUSE, "key": key} for key in ((1, 0, 0), (3, 3, 2), (0, 1, 0))],
    "costs_nothing": [{**HOUSE, "key": key} for key in ((1, 0, 0), (3, 3, 2), (0, 1, 0))],
    "with_new_at": [{**HOUSE, "pins": pins} for pins in ((), (1,), (0, 1, 2))],
    "best_pins": [{**HOUSE, "many": many} for many in (-1, 0, 1, 2, 3, 4)],
    "least_cost": [{**HOUSE, "many": many} for many in (-1, 0, 1, 2, 3, 4)],
    "is_fit": [{"own": OWN, "key": key} for key in ((3, 1, 1), (1, 0, 0), (2, 0, 2))],
    "unfit_pair": [{"own": OWN, "key": key} for key in ((3, 1, 1), (1, 0, 0), (2, 0, 2))],
    "how_many_fit": [{"depths": LOCK, "own": own} for own in (OWN, LOUD)],
    "nth_fit": [{"depths": LOCK, "own": OWN, "number": number} for number in (0, 7, 48, -1)],
    "number_of_fit": [{"depths": LOCK, "own": OWN, "key": key} for key in ((3, 1, 1), (1, 0, 0))],
    "are_wings": [{"depths": LOCK, "grand": grand, "thing": thing} for grand in (GRAND, ())
                  for thing in (WINGS, list(WINGS), BARE, WINGS[::-1], (["east", (), ()],), (("east", [], ()),))],
    "wing_names": [{"wings": WINGS}],
    "room_in": [{"grand": GRAND, "wings": WINGS, "name": name, "key": key}
                for name, key in (("east", (2, 3, 2)), ("east", (3, 2, 2)), ("north", (2, 3, 2)))],
    "opened_rooms": [{"grand": GRAND, "wings": WINGS, "key": key} for key in ((0, 0, 0), (0, 0, 1), (2, 2, 1), (3, 3, 0))],
    "strays": [{"grand": grand, "wings": wings} for grand in (GRAND, ()) for wings in (WINGS, BARE, STRAYED)],
    "kept_wings": [{"grand": grand, "wings": wings} for grand in (GRAND, ()) for wings in (WINGS, BARE, STRAYED)],
    "most_in": [{"depths": LOCK, "grand": grand, "wings": wings, "name": name}
                for grand, wings, name in ((GRAND, WINGS, "east"), ((), BARE, "a"), (GRAND, WINGS, "north"))],
    "share_in": [{"depths": LOCK, "grand": grand, "wings": wings, "name": name}
                 for grand, wings, name in ((GRAND, WINGS, "east"), ((), BARE, "a"), (GRAND, WINGS, "north"))],
    "is_open_to": [{"grand": GRAND, "wings": WINGS, "name": name, "key": key}
                   for name in ("east", "north") for key in ((1, 3, 2), (2, 2, 1), (0, 0, 0), (0, 1, 0))],
    "how_many_open_to": [{"depths": LOCK, "grand": GRAND, "wings": WINGS, "name": name} for name in ("west", "north")],
    "nth_open_to": [{"depths": LOCK, "grand": GRAND, "wings": WINGS, "name": name, "number": number}
                    for name in ("west", "north") for number in (0, 3, 48, -1)],
    "with_room": [{"grand": GRAND, "wings": WINGS, "name": name, "key": (2, 2, 1)} for name in ("east", "north")],
    "without_room": [{"wings": WINGS, "name": name, "key": key}
                     for name, key in (("east", (2, 3, 2)), ("east", (3, 2, 2)), ("north", (2, 3, 2)))],
    "next_key": [{**HOUSE, "own": OWN, "number": number} for number in (-1, 0, 20, 47, 48)],
    "room_more": [{**HOUSE, "own": own} for own in (OWN, (), ((0, 0, 0),))],
    "fresh_for": [{**HOUSE, "own": OWN, "key": key} for key in ((1, 2, 0), (1, 1, 0))],
    "nearest_key": [{**HOUSE, "own": OWN, "key": key} for key in ((1, 2, 0), (1, 1, 0))],
    "recut": [{"keys": LOUD, "pin": 1, "cuts": (2, 3, 0, 1)}],
    "reordered": [{"keys": LOUD, "pins": (2, 0, 1)}],
    "with_pin": [{"keys": LOUD, "pin": pin, "cut": 5} for pin in (0, 2, 3)],
    "depths_text": [{"depths": LOCK}],
    "key_text": [{"key": (2, 1, 1)}],
    "keys_text": [{"keys": keys} for keys in (OWN, ())],
    "row_text": [{"row": (2, None, 1)}],
    "door_text": [{"door": GATE}],
    "plan_text": [{**HOUSE, "own": own} for own in (OWN, ())],
    "depths_read": [{"text": text} for text in ("4 4 3", "4 1")],
    "key_read": [{"text": text} for text in ("2-1-1", "2-")],
    "keys_read": [{"text": text} for text in ("0-1, 1-0", "none", "1-0, 0-1")],
    "row_read": [{"text": text} for text in ("2-*-1", "2-**")],
    "door_read": [{"text": text} for text in ("0,1 / 2", "1,0")],
    "plan_read": [{"text": text} for text in (PLAN, "", PLAN + "\n", "3 3\n0-0")],
    "is_request": [{"depths": LOCK, "thing": thing} for thing in ("put 1-2-0", "room 3 5", "room 4 5", "", None, ["own"])],
    "replies": [{**HOUSE, "text": text}
                for text in ("put 1-0-1\nput 1-2-0\nown\nsizes\nput 0-0-0\nroom 1 0", "own\nput 1", "")],
}

# Beside those whose names begin with is_, the functions that tell whether something is so.
WHETHER = ("alike", "opens_room", "opens", "within", "can_be_by_share", "opens_worn", "costs_nothing", "are_wings")

# The functions that return a list.
LISTS = ("clashes", "replies")


def outcome(function, *told, **named):
    """What the call returns, written out, or the error that it raises."""
    try:
        return repr(function(*told, **named))
    except tuple(getattr(errors, name) for name in ERRORS) as error:
        return f"{type(error).__name__} {vars(error)!r}"


def all_needed(file):
    """The names of all files that this one imports from, straight or through others."""
    needed, waiting = set(), [file]
    while waiting:
        for node in ast.parse((PACKAGE / f"{waiting.pop()}.py").read_text(encoding="ascii")).body:
            if isinstance(node, ast.ImportFrom) and node.module.startswith("undermasters."):
                other = node.module.split(".")[1]
                if other not in needed:
                    needed.add(other)
                    waiting.append(other)
    return needed


def in_form(form, named):
    """The arguments with lists as this form puts them; a thing stays as it is."""
    return {name: value if name == "thing" else form(value) for name, value in named.items()}


class EveryFunction(unittest.TestCase):

    def each_call(self):
        """All pairs of a function and of the arguments of one call, by name."""
        calls = []
        for file, functions in FUNCTIONS.items():
            for name in functions:
                function = getattr(importlib.import_module(f"undermasters.{file}"), name)
                calls.extend([(function, named) for named in CALLS[name]])
        return calls

    def test_calls_for_each_function(self):
        self.assertEqual(list(CALLS), [name for functions in FUNCTIONS.values() for name in functions])

    def test_by_position_and_by_name(self):
        for function, named in self.each_call():
            expected = outcome(function, *named.values())
            self.assertEqual(outcome(function, **named), expected, (function, named))
            self.assertEqual(outcome(function, **dict(list(named.items())[::-1])), expected, (function, named))

    def test_lists_for_tuples(self):
        for function, named in self.each_call():
            expected = outcome(function, **named)
            for form in (as_lists, outer_list, inner_lists, mixed_lists, other_mixed_lists):
                told = in_form(form, named)
                self.assertEqual(outcome(function, **told), expected, (function, told))
                self.assertEqual(outcome(function, *told.values()), expected, (function, told))

    def test_lists_at_random(self):
        draw = Random(2)

        def drawn_lists(value):
            if not isinstance(value, (list, tuple)):
                return value
            return draw.choice((list, tuple))([drawn_lists(part) for part in value])

        for function, named in self.each_call():
            expected = outcome(function, **named)
            for _ in range(12):
                told = in_form(drawn_lists, named)
                self.assertEqual(outcome(function, **told), expected, (function, told))

    def test_lists_for_single_arguments(self):
        for function, named in self.each_call():
            expected = outcome(function, **named)
            for name in named:
                if name != "thing":
                    told = {**named, name: as_lists(named[name])}
                    self.assertEqual(outcome(function, **told), expected, (function, told))

    def test_arguments_stay_as_they_were(self):
        for function, named in self.each_call():
            for form in (deepcopy, as_lists, outer_list, inner_lists, mixed_lists, other_mixed_lists):
                told = in_form(form, named)
                before = repr(told)
                outcome(function, **told)
                self.assertEqual(repr(told), before, function)

    def test_no_lists_in_results(self):
        for function, named in self.each_call():
            try:
                result = function(**in_form(as_lists, named))
            except tuple(getattr(errors, name) for name in ERRORS) as error:
                result = tuple(vars(error).values())
            else:
                if function.__name__ in LISTS:
                    self.assertIsInstance(result, list)
                    result = tuple(result)
            self.assertFalse(has_list(result), (function, named, result))

    def test_lists_are_new(self):
        for function, named in self.each_call():
            expected = outcome(function, **named)
            if function.__name__ in LISTS and expected.startswith("["):
                function(**named).append("more")
                self.assertEqual(outcome(function, **named), expected)

    def test_same_again(self):
        for function, named in self.each_call():
            self.assertEqual(outcome(function, **named), outcome(function, **named), function)

    def test_whether_is_told_by_bools(self):
        for function, named in self.each_call():
            if function.__name__.startswith("is_") or function.__name__ in WHETHER:
                self.assertIn(outcome(function, **named).split()[0], ("True", "False", "NoName"), function)


class Interface(unittest.TestCase):

    def test_names_and_arguments(self):
        for file, functions in FUNCTIONS.items():
            module = importlib.import_module(f"undermasters.{file}")
            for name, parameters in functions.items():
                signature = inspect.signature(getattr(module, name))
                self.assertEqual(list(signature.parameters), parameters, name)
                for parameter in signature.parameters.values():
                    self.assertEqual(parameter.kind, parameter.POSITIONAL_OR_KEYWORD, name)
                    self.assertEqual(parameter.default, parameter.empty, name)

    def test_methods(self):
        tree = ast.parse((PACKAGE / "board.py").read_text(encoding="ascii"))
        kind = [node for node in tree.body if isinstance(node, ast.ClassDef) and node.name == "Board"][0]
        defined = [node.name for node in kind.body if isinstance(node, ast.FunctionDef)]
        self.assertEqual(list(inspect.signature(board.Board).parameters), ["depths", "common"])
        for name, parameters in METHODS.items():
            self.assertIn(name, defined)
            signature = inspect.signature(getattr(board.Board, name))
            self.assertEqual(list(signature.parameters), ["self", *parameters], name)
            for parameter in signature.parameters.values():
                self.assertEqual(parameter.kind, parameter.POSITIONAL_OR_KEYWORD, name)
                self.assertEqual(parameter.default, parameter.empty, name)

    def test_files_in_their_order(self):
        # each file of the interface needs only those ahead of it, also through files that are not listed
        files = ["errors", *FUNCTIONS]
        for at, file in enumerate(files):
            needed = all_needed(file)
            self.assertEqual([other for other in files[at + 1:] if other in needed], [], file)

    def test_defined_in_their_files(self):
        for file, names in {**FUNCTIONS, "errors": ERRORS, "board": ["Board"]}.items():
            body = ast.parse((PACKAGE / f"{file}.py").read_text(encoding="ascii")).body
            defined = [node.name for node in body if isinstance(node, (ast.FunctionDef, ast.ClassDef))]
            self.assertEqual([name for name in names if name not in defined], [], file)


if __name__ == "__main__":
    unittest.main()

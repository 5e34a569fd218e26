"""What several tests need: plain listings, other forms of arguments, and the interface so far."""

from itertools import combinations, product

# For each file its functions in the order of the document, with the names of their arguments.
FUNCTIONS = {
    "cuts": {
        "is_depths": ["thing"],
        "is_key": ["depths", "thing"],
        "is_keys": ["depths", "thing"],
        "how_many_keys": ["depths"],
        "nth_key": ["depths", "number"],
        "number_of_key": ["depths", "key"],
        "common_cuts": ["common"],
        "free_pins": ["common", "key"],
        "rank": ["common", "key"],
        "row_of": ["common", "key"],
        "alike": ["common", "one", "other"],
        "opens_room": ["common", "one", "other"],
        "barring_pin": ["common", "one", "other"],
        "openers_of": ["common", "keys", "key"],
        "opened_by": ["common", "keys", "key"],
        "clash": ["common", "keys"],
    },
    "doors": {
        "is_door": ["depths", "thing"],
        "door_for": ["keys"],
        "opens": ["door", "key"],
        "pin_that_bars": ["door", "key"],
        "both": ["door", "other"],
        "within": ["door", "other"],
        "how_many_open": ["door"],
        "how_many_strays": ["keys"],
        "how_many_some": ["doors"],
        "how_many_all": ["doors"],
        "how_many_just": ["depths", "doors", "number"],
        "nth_opener": ["door", "number"],
        "number_of_opener": ["door", "key"],
        "nth_of_some": ["doors", "number"],
        "givers": ["keys", "key"],
        "fewest_makers": ["keys", "key"],
    },
}

# For each error class its built-in base class and the names of its values.
ERRORS = {
    "NoName": (LookupError, ["name"]),
    "NoKey": (LookupError, ["key"]),
    "NoNumber": (LookupError, ["number"]),
    "NothingDone": (LookupError, []),
    "NotQuiet": (ValueError, ["one", "other"]),
    "Twice": (ValueError, ["key"]),
    "BadText": (ValueError, []),
    "BadLine": (ValueError, ["number"]),
}

# Numbers that no listing here reaches, and numbers below 0.
OUTSIDE = (-1, -2, -(10 ** 40), 10 ** 40)

# Values that are never DEPTHS, a KEY, KEYS other than (), or a DOOR, whatever the DEPTHS.
NEVER = (
    None, True, False, 0, 1, 2, -1, 10 ** 40, "", "a", "00", "(0, 0)",
    [], [0], [2], [0, 0], [[0, 0]], [(0, 0)], [[0], [0]],
    (None,), (None, None), (True,), (False,), (False, False), (True, True), ("0", "0"), ("00",), (-1,), (-1, -1),
    (((((((((((0,),),),),),),),),),),), (((0, 0),),), (((0,), (0,)),), ([],), ([], []), ("",), ((), ()), ((),),
    (10 ** 40, -1), (0, None), (None, 0), (0, (0,)), ((0,), 0), (0, "0"), ("0", 0), (0, [0]), ([0], 0), (0, -1),
)


def keys_of(depths):
    """All KEYS of these DEPTHS, ascending."""
    return list(product(*[range(depth) for depth in depths]))


def subsets(things, least, most):
    """All sets of at least and at most so many of the ascending things, smaller ones first."""
    return [some for many in range(least, most + 1) for some in combinations(things, many)]


def doors_of(depths):
    """All DOORs for these DEPTHS."""
    return list(product(*[subsets(range(depth), 1, depth) for depth in depths]))


def can_open(door, key):
    """Whether at each pin the cut of the KEY is one of those that the DOOR lets."""
    return all(cut in cuts for cut, cuts in zip(key, door))


def room(common, key):
    """For each pin the cut of the KEY and the common ones."""
    return [{key[pin]} | {each[pin] for each in common} for pin in range(len(key))]


def as_lists(value):
    """The same with lists in the place of all tuples."""
    if isinstance(value, (list, tuple)):
        return [as_lists(part) for part in value]
    return value


def outer_list(value):
    """The same with a list in the place of the outermost tuple alone."""
    return list(value) if isinstance(value, tuple) else value


def inner_lists(value):
    """The same with lists in the place of all tuples but the outermost one."""
    return tuple(as_lists(part) for part in value) if isinstance(value, tuple) else value


def mixed_lists(value):
    """The same with a list in the place of every second tuple at each depth."""
    if not isinstance(value, tuple):
        return value
    return [as_lists(part) if at % 2 == 0 else mixed_lists(part) for at, part in enumerate(value)]


def has_list(value):
    """Whether there is a list in the value, at any depth."""
    if isinstance(value, tuple):
        return any(has_list(part) for part in value)
    return isinstance(value, list)

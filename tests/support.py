"""What several tests need: plain listings, other forms of arguments, and the interface so far."""

from itertools import combinations, product

# For each file its functions in the order of the document, with the names of their arguments.
FUNCTIONS = {
    "cuts": {
        "is_depths": ["thing"],
        "is_key": ["depths", "thing"],
        "is_keys": ["depths", "thing"],
        "how_many_keys": ["depths"],
        "nth_key": ["depths", "number"],
        "number_of_key": ["depths", "key"],
        "common_cuts": ["common"],
        "free_pins": ["common", "key"],
        "rank": ["common", "key"],
        "row_of": ["common", "key"],
        "alike": ["common", "one", "other"],
        "opens_room": ["common", "one", "other"],
        "barring_pin": ["common", "one", "other"],
        "openers_of": ["common", "keys", "key"],
        "opened_by": ["common", "keys", "key"],
        "clash": ["common", "keys"],
    },
    "doors": {
        "is_door": ["depths", "thing"],
        "door_for": ["keys"],
        "opens": ["door", "key"],
        "pin_that_bars": ["door", "key"],
        "both": ["door", "other"],
        "within": ["door", "other"],
        "how_many_open": ["door"],
        "how_many_strays": ["keys"],
        "how_many_some": ["doors"],
        "how_many_all": ["doors"],
        "how_many_just": ["depths", "doors", "number"],
        "nth_opener": ["door", "number"],
        "number_of_opener": ["door", "key"],
        "nth_of_some": ["doors", "number"],
        "givers": ["keys", "key"],
        "fewest_makers": ["keys", "key"],
    },
    "halls": {
        "is_hall": ["thing"],
        "door_of": ["hall", "room"],
        "who_opens": ["hall", "room"],
        "strangers": ["hall", "room"],
        "rooms_of": ["hall", "person"],
        "strange": ["hall"],
        "is_kept": ["hall"],
        "with_person": ["hall", "person", "room"],
        "new_strangers": ["hall", "person", "room"],
        "closure": ["hall", "names"],
        "is_closed": ["hall", "names"],
        "how_many_closed": ["hall"],
    },
    "most": {
        "rank_sizes": ["depths", "common"],
        "most_rooms": ["depths", "common"],
        "best_ranks": ["depths", "common"],
        "most_without_rows": ["depths", "common", "many"],
        "nth_room": ["depths", "common", "free", "number"],
        "number_of_room": ["depths", "common", "key"],
        "rank_rooms": ["depths", "common", "free"],
        "keys_like": ["depths", "common", "key"],
        "how_many_of_rank": ["depths", "common", "free"],
        "one_more_pin": ["depths", "common", "depth"],
    },
    "more": {
        "is_further": ["depths", "common", "own", "key"],
        "who_bars": ["depths", "common", "own", "key"],
        "how_many_further": ["depths", "common", "own"],
        "further_ranks": ["depths", "common", "own"],
        "nth_further": ["depths", "common", "own", "number"],
        "number_of_further": ["depths", "common", "own", "key"],
        "best_addition": ["depths", "common", "own"],
    },
    "quiet": {
        "is_quiet": ["depths", "common", "own"],
        "clashes": ["depths", "common", "own"],
        "least_taken_out": ["depths", "common", "own"],
        "share": ["depths", "common", "own"],
        "most_more": ["depths", "common", "own"],
        "is_greatest": ["depths", "common", "own"],
        "is_full": ["depths", "common", "own"],
        "share_of_ranks": ["depths", "common", "counts"],
        "can_be_by_share": ["depths", "common", "counts"],
        "ranks_of": ["depths", "common", "own"],
    },
    "covers": {
        "most_quiet": ["common", "keys"],
        "quiet_among": ["common", "keys"],
        "is_quiet_among": ["common", "keys", "thing"],
        "cover_rows": ["common", "keys"],
        "is_opener_row": ["common", "keys", "thing"],
        "is_row_cover": ["common", "keys", "thing"],
        "longest_row": ["common", "keys"],
        "quiet_cover": ["common", "keys"],
        "is_quiet_cover": ["common", "keys", "thing"],
        "always_in": ["common", "keys"],
        "ever_in": ["common", "keys"],
        "loners": ["common", "keys"],
    },
    "private": {
        "is_harmless": ["depths", "common", "own", "key"],
        "how_many_harmless": ["depths", "common", "own"],
        "harmless_ranks": ["depths", "common", "own"],
        "nth_harmless": ["depths", "common", "own", "number"],
        "number_of_harmless": ["depths", "common", "own", "key"],
        "is_house_closed": ["depths", "common", "own", "private"],
        "breach": ["depths", "common", "own", "private"],
        "kept_private": ["depths", "common", "private", "key"],
    },
    "worn": {
        "is_worn": ["depths", "thing"],
        "opens_worn": ["common", "worn", "one", "other"],
        "worn_bar": ["common", "worn", "one", "other"],
        "worn_rank": ["common", "worn", "key"],
        "sizes": ["depths", "common", "worn"],
        "worn_sizes": ["depths", "common", "worn"],
        "most_worn": ["depths", "common", "worn"],
        "worn_ranks": ["depths", "common", "worn"],
        "nth_worn": ["depths", "common", "worn", "rank", "number"],
        "number_worn": ["depths", "common", "worn", "key"],
        "is_worn_quiet": ["common", "worn", "own"],
        "worn_clashes": ["common", "worn", "own"],
        "worn_share": ["depths", "common", "worn", "own"],
        "wears_to": ["common", "own"],
        "worn_rest": ["depths", "common", "worn", "own"],
    },
    "lost": {
        "without_person": ["hall", "person"],
        "still_opens": ["hall", "person"],
        "is_enough": ["hall", "person", "names"],
        "shut_by": ["hall", "person", "names"],
        "fewest_anew": ["hall", "person"],
        "dearest_losses": ["hall"],
        "doors_anew": ["hall", "person", "names"],
        "cut_anew": ["hall", "person", "names"],
    },
    "commons": {
        "cost_of": ["depths", "common", "key"],
        "costs_nothing": ["depths", "common", "key"],
        "with_new_at": ["depths", "common", "pins"],
        "best_pins": ["depths", "common", "many"],
        "least_cost": ["depths", "common", "many"],
        "is_fit": ["own", "key"],
        "unfit_pair": ["own", "key"],
        "how_many_fit": ["depths", "own"],
        "nth_fit": ["depths", "own", "number"],
        "number_of_fit": ["depths", "own", "key"],
    },
    "wings": {
        "are_wings": ["depths", "grand", "thing"],
        "wing_names": ["wings"],
        "room_in": ["grand", "wings", "name", "key"],
        "opened_rooms": ["grand", "wings", "key"],
        "strays": ["grand", "wings"],
        "kept_wings": ["grand", "wings"],
        "most_in": ["depths", "grand", "wings", "name"],
        "share_in": ["depths", "grand", "wings", "name"],
        "is_open_to": ["grand", "wings", "name", "key"],
        "how_many_open_to": ["depths", "grand", "wings", "name"],
        "nth_open_to": ["depths", "grand", "wings", "name", "number"],
        "with_room": ["grand", "wings", "name", "key"],
        "without_room": ["wings", "name", "key"],
    },
    "changes": {
        "next_key": ["depths", "common", "own", "number"],
        "room_more": ["depths", "common", "own"],
        "fresh_for": ["depths", "common", "own", "key"],
        "nearest_key": ["depths", "common", "own", "key"],
        "recut": ["keys", "pin", "cuts"],
        "reordered": ["keys", "pins"],
        "with_pin": ["keys", "pin", "cut"],
    },
    "board": {},
    "texts": {
        "depths_text": ["depths"],
        "key_text": ["key"],
        "keys_text": ["keys"],
        "row_text": ["row"],
        "door_text": ["door"],
        "plan_text": ["depths", "common", "own"],
        "depths_read": ["text"],
        "key_read": ["text"],
        "keys_read": ["text"],
        "row_read": ["text"],
        "door_read": ["text"],
        "plan_read": ["text"],
    },
    "desk": {
        "is_request": ["depths", "thing"],
        "replies": ["depths", "common", "text"],
    },
}

# The methods of the class Board, with the names of their arguments.
METHODS = {
    "depths": [],
    "common": [],
    "own": [],
    "__len__": [],
    "__contains__": ["key"],
    "share": [],
    "most_more": [],
    "put": ["key"],
    "take_out": ["key"],
    "change": ["key", "fresh"],
    "undo": [],
    "deeds": [],
    "twin": [],
    "__eq__": ["other"],
}

# For each error class its built-in base class and the names of its values.
ERRORS = {
    "NoName": (LookupError, ["name"]),
    "NoKey": (LookupError, ["key"]),
    "NoNumber": (LookupError, ["number"]),
    "NothingDone": (LookupError, []),
    "NotQuiet": (ValueError, ["one", "other"]),
    "Twice": (ValueError, ["key"]),
    "BadText": (ValueError, []),
    "BadLine": (ValueError, ["number"]),
}

# Numbers that no listing here reaches, and numbers below 0.
OUTSIDE = (-1, -2, -(10 ** 40), 10 ** 40)

# Values that are never DEPTHS, a KEY, KEYS other than (), or a DOOR, whatever the DEPTHS.
NEVER = (
    None, True, False, 0, 1, 2, -1, 10 ** 40, "", "a", "00", "(0, 0)",
    [], [0], [2], [0, 0], [[0, 0]], [(0, 0)], [[0], [0]],
    (None,), (None, None), (True,), (False,), (False, False), (True, True), ("0", "0"), ("00",), (-1,), (-1, -1),
    (((((((((((0,),),),),),),),),),),), (((0, 0),),), (((0,), (0,)),), ([],), ([], []), ("",), ((), ()), ((),),
    (10 ** 40, -1), (0, None), (None, 0), (0, (0,)), ((0,), 0), (0, "0"), ("0", 0), (0, [0]), ([0], 0), (0, -1),
)


def keys_of(depths):
    """All KEYS of these DEPTHS, ascending."""
    return list(product(*[range(depth) for depth in depths]))


def subsets(things, least, most):
    """All sets of at least and at most so many of the ascending things, smaller ones first."""
    return [some for many in range(least, most + 1) for some in combinations(things, many)]


def doors_of(depths):
    """All DOORs for these DEPTHS."""
    return list(product(*[subsets(range(depth), 1, depth) for depth in depths]))


def can_open(door, key):
    """Whether at each pin the cut of the KEY is one of those that the DOOR lets."""
    return all(cut in cuts for cut, cuts in zip(key, door))


def room(common, key):
    """For each pin the cut of the KEY and the common ones."""
    return [{key[pin]} | {each[pin] for each in common} for pin in range(len(key))]


def lets(common, one, other):
    """Whether the KEY one opens the ROOM of other."""
    return all(cut in cuts for cut, cuts in zip(one, room(common, other)))


def are_quiet(common, keys):
    """Whether none of the KEYS opens the ROOM of another one."""
    return not any(one != other and lets(common, one, other) for one in keys for other in keys)


def row(common, key):
    """The cuts of the KEY, None in the place of those that a COMMON KEY has there."""
    return tuple(None if any(each[pin] == cut for each in common) else cut for pin, cut in enumerate(key))


def how_many_free(common, key):
    """The RANK of the KEY."""
    return len(key) - row(common, key).count(None)


def greatest_quiet(common, keys):
    """The list of all greatest quiet sets of KEYS."""
    for many in range(len(keys), -1, -1):
        found = [some for some in combinations(keys, many) if are_quiet(common, some)]
        if found:
            return found
    return []


# Some small DEPTHS and COMMON KEYS for them: one and several, also such that all cuts are common at a pin or at all.
HOUSES = (
    ((4,), ((1,),)), ((4,), ((0,), (3,))), ((2,), ((0,), (1,))),
    ((2, 3), ((0, 1),)), ((2, 3), ((0, 0), (1, 2))), ((2, 2), ((0, 1), (1, 0))),
    ((3, 3), ((0, 0),)), ((3, 3), ((1, 2),)), ((3, 3), ((0, 0), (1, 0))), ((3, 3), ((0, 2), (1, 1), (2, 1))),
    ((2, 2, 2), ((1, 0, 1),)), ((2, 2, 2), ((0, 0, 0), (0, 1, 0))), ((3, 2, 2), ((0, 0, 0),)),
    ((3, 2, 2), ((0, 0, 1), (2, 0, 0))), ((2, 3, 2), ((0, 2, 0), (1, 1, 0), (1, 2, 0))),
)


def as_lists(value):
    """The same with lists in the place of all tuples."""
    if isinstance(value, (list, tuple)):
        return [as_lists(part) for part in value]
    return value


def outer_list(value):
    """The same with a list in the place of the outermost tuple alone."""
    return list(value) if isinstance(value, tuple) else value


def inner_lists(value):
    """The same with lists in the place of all tuples but the outermost one."""
    return tuple(as_lists(part) for part in value) if isinstance(value, tuple) else value


def mixed_lists(value):
    """The same with lists in the place of every second tuple in it, at each depth, and in its own place."""
    if not isinstance(value, tuple):
        return value
    return [as_lists(part) if at % 2 == 0 else part for at, part in enumerate(value)]


def other_mixed_lists(value):
    """Likewise, but for the other ones of the tuples in it, and not in its own place."""
    if not isinstance(value, tuple):
        return value
    return tuple(as_lists(part) if at % 2 == 1 else mixed_lists(part) for at, part in enumerate(value))


def has_list(value):
    """Whether there is a list in the value, at any depth."""
    if isinstance(value, tuple):
        return any(has_list(part) for part in value)
    return isinstance(value, list)

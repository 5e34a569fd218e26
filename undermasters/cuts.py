"""DEPTHS, KEYS, COMMON KEYS, and which KEY opens the ROOM of which."""

from undermasters.basics import as_tuples, cuts_by_pin, how_many_choices, is_ascending, is_cut, is_number
from undermasters.basics import nth_choice, number_of_choice
from undermasters.errors import NoNumber


def is_depths(thing):
    """Whether thing is DEPTHS, of however many pins."""
    if not isinstance(thing, tuple) or len(thing) == 0:
        return False
    return all([is_number(depth) and depth >= 2 for depth in thing])


def is_key(depths, thing):
    """Whether thing is a KEY of these DEPTHS."""
    if not isinstance(thing, tuple) or len(thing) != len(depths):
        return False
    return all([is_cut(depth, cut) for depth, cut in zip(depths, thing)])


def is_keys(depths, thing):
    """Whether thing is KEYS of these DEPTHS, however many."""
    if not isinstance(thing, tuple):
        return False
    # only KEYS are sure to be comparable with each other
    return all([is_key(depths, key) for key in thing]) and is_ascending(thing)


def how_many_keys(depths):
    """How many KEYS of these DEPTHS there are."""
    return how_many_choices(depths)


def nth_key(depths, number):
    """The KEY with this number, from 0, ascending; raises NoNumber if there is none."""
    if not 0 <= number < how_many_keys(depths):
        raise NoNumber(number)
    return nth_choice(depths, number)


def number_of_key(depths, key):
    """The number of this KEY, from 0, ascending."""
    return number_of_choice(depths, key)


def common_cuts(common):
    """For each pin the set of the common cuts."""
    return cuts_by_pin(common)


def free_pins(common, key):
    """The set of the pins at which the cut of the KEY is not common."""
    lets = common_cuts(common)
    return tuple([pin for pin, cut in enumerate(key) if cut not in lets[pin]])


def rank(common, key):
    """The RANK of the KEY: how many free pins it has."""
    return len(free_pins(common, key))


def row_of(common, key):
    """The ROW of the KEY: its cuts, with None in the place of the common ones."""
    lets = common_cuts(common)
    return tuple([None if cut in lets[pin] else cut for pin, cut in enumerate(key)])


def alike(common, one, other):
    """Whether two KEYS have equal ROWs."""
    return row_of(common, one) == row_of(common, other)


def opens_room(common, one, other):
    """Whether the KEY one opens the ROOM of other."""
    return barring_pin(common, one, other) is None


def barring_pin(common, one, other):
    """The first free pin of one at which other has another cut; None if one opens the ROOM of other."""
    return first_bar(common_cuts(common), one, other)


def first_bar(lets, one, other):
    """The first pin at which the cut of one is neither let nor that of other; None if there is none."""
    for pin, cut in enumerate(one):
        if cut not in lets[pin] and cut != other[pin]:
            return pin
    return None


def openers_of(common, keys, key):
    """The set of those of KEYS that open the ROOM of this KEY."""
    lets = common_cuts(common)
    return as_tuples([one for one in keys if first_bar(lets, one, key) is None])


def opened_by(common, keys, key):
    """The set of those of KEYS whose ROOMs this KEY opens."""
    lets = common_cuts(common)
    return as_tuples([other for other in keys if first_bar(lets, key, other) is None])


def clash(common, keys):
    """The least pair (one, other) of two different KEYS of which one opens the ROOM of other, or None."""
    lets = common_cuts(common)
    plain = as_tuples(keys)
    for one in plain:
        for other in plain:
            if one != other and first_bar(lets, one, other) is None:
                return (one, other)
    return None

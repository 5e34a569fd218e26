"""WINGs of a house, each with masters of its own: strays, and the KEYS that are open to a WING."""

from undermasters.basics import as_tuples, cuts_by_pin, is_ascending, is_name
from undermasters.cuts import is_keys
from undermasters.doors import door_for, opens
from undermasters.errors import NoKey, NoName
from undermasters.more import rooms_opened
from undermasters.most import most_rooms
from undermasters.quiet import share
from undermasters.shutout import how_many_shut_out, nth_shut_out


def are_wings(depths, grand, thing):
    """Whether thing is WINGS, of however many WINGs, at least one."""
    if not isinstance(thing, tuple) or len(thing) == 0:
        return False
    if not all([is_wing(depths, part) for part in thing]):
        return False
    keys = standing_keys(grand, thing)
    return is_ascending([name for name, _, _ in thing]) and len(set(keys)) == len(keys)


def is_wing(depths, thing):
    """Whether thing is a WING, of however many masters and own KEYS."""
    if not isinstance(thing, tuple) or len(thing) != 3:
        return False
    name, masters, own = thing
    return is_name(name) and is_keys(depths, masters) and is_keys(depths, own)


def wing_of(wings, name):
    """The pair of the masters and the own KEYS of the WING with this name; raises NoName if there is none."""
    for each, masters, own in wings:
        if each == name:
            return as_tuples((masters, own))
    raise NoName(name)


def keys_of_wings(wings):
    """All KEYS of the WINGS, masters and own ones."""
    return as_tuples([key for _, masters, own in wings for key in [*masters, *own]])


def standing_keys(grand, wings):
    """All KEYS that stand in the WINGS and in grand."""
    return [*as_tuples(grand), *keys_of_wings(wings)]


def strangers_to(wings, masters):
    """All KEYS of the WINGS but these masters."""
    return [key for key in keys_of_wings(wings) if key not in masters]


def rooms_with_doors(grand, wings):
    """For each own KEY the triple of the name of its WING, of itself, and of its ROOM."""
    return [(name, key, door_for([*grand, *masters, key])) for name, masters, own in as_tuples(wings) for key in own]


def wing_names(wings):
    """The set of the names of the WINGs."""
    return tuple([name for name, _, _ in wings])


def room_in(grand, wings, name, key):
    """The ROOM of this own KEY; raises NoName, then NoKey."""
    masters, own = wing_of(wings, name)
    if tuple(key) not in own:
        raise NoKey(key)
    return door_for([*grand, *masters, key])


def opened_rooms(grand, wings, key):
    """The set of the pairs (name, room) of the ROOMs that the KEY opens."""
    return tuple([(name, room) for name, room, door in rooms_with_doors(grand, wings) if opens(door, key)])


def strays(grand, wings):
    """The set of all strays: triples (key, name, room)."""
    found = []
    for name, room, door in rooms_with_doors(grand, wings):
        masters, _ = wing_of(wings, name)
        found.extend([(key, name, room) for key in strangers_to(wings, masters) if key != room and opens(door, key)])
    return tuple(sorted(found))


def kept_wings(grand, wings):
    """The set of the names of the WINGs that no stray tells."""
    told = [name for _, name, _ in strays(grand, wings)]
    return tuple([name for name in wing_names(wings) if name not in told])


def commons_of(grand, wings, name):
    """The set of the KEYS that are common in this WING: grand and its masters; raises NoName."""
    masters, _ = wing_of(wings, name)
    return tuple(sorted([*as_tuples(grand), *masters]))


def most_in(depths, grand, wings, name):
    """How many OWN KEYS can be quiet at the most under grand and the masters of the WING, or None; raises NoName."""
    common = commons_of(grand, wings, name)
    return most_rooms(depths, common) if common else None


def share_in(depths, grand, wings, name):
    """The share of the own KEYS of the WING under grand and its masters, or None; raises NoName."""
    common = commons_of(grand, wings, name)
    _, own = wing_of(wings, name)
    return share(depths, common, own) if common else None


def is_open_to(grand, wings, name, key):
    """Whether the KEY stands nowhere and makes no stray as an own KEY of the WING; raises NoName."""
    masters, _ = wing_of(wings, name)
    if tuple(key) in standing_keys(grand, wings) or opened_rooms(grand, wings, key):
        return False
    door = door_for([*grand, *masters, key])
    return not any([opens(door, one) for one in strangers_to(wings, masters)])


def closing_doors(depths, grand, wings, name):
    """The DOORs of which the KEYS that are open to the WING, and no others, open none; raises NoName."""
    common = commons_of(grand, wings, name)
    lets = cuts_by_pin(common) if common else [() for _ in depths]
    own_rooms = [door for _, _, door in rooms_with_doors(grand, wings)]
    # each KEY opens its own ROOM: so the strangers to the WING are shut out, too
    strange = [rooms_opened(depths, lets, key) for key in strangers_to(wings, common)]
    return own_rooms + strange + [door_for([key]) for key in common]


def how_many_open_to(depths, grand, wings, name):
    """How many KEYS are open to the WING; raises NoName."""
    return how_many_shut_out(depths, closing_doors(depths, grand, wings, name))


def nth_open_to(depths, grand, wings, name, number):
    """The KEY with this number, from 0, ascending, of those open to the WING; raises NoName, then NoNumber."""
    return nth_shut_out(depths, closing_doors(depths, grand, wings, name), number)


def with_room(grand, wings, name, key):
    """The WINGS with the KEY as an own KEY of this WING; raises NoName."""
    _, own = wing_of(wings, name)
    return with_own(wings, name, sorted([*own, tuple(key)]))


def without_room(wings, name, key):
    """The WINGS without this own KEY of this WING; raises NoName, then NoKey."""
    _, own = wing_of(wings, name)
    if tuple(key) not in own:
        raise NoKey(key)
    return with_own(wings, name, [each for each in own if each != tuple(key)])


def with_own(wings, name, keys):
    """The WINGS with these KEYS as the own ones of the WING with this name."""
    return as_tuples([(each, masters, keys if each == name else own) for each, masters, own in wings])

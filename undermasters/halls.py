"""HALLs: people with KEYS, rooms with DOORs, and who opens what is not meant for them."""

from undermasters.basics import all_marked, as_tuples, is_ascending, is_name, is_pair
from undermasters.cuts import is_depths, is_key
from undermasters.doors import door_for, opens
from undermasters.errors import NoName
from undermasters.openings import marks_with_cuts


def is_hall(thing):
    """Whether thing is a HALL, of however many people, at least one, and rooms."""
    if not isinstance(thing, tuple) or len(thing) != 3:
        return False
    depths, people, rooms = thing
    return is_depths(depths) and are_people(depths, people) and are_rooms(people, rooms)


def are_people(depths, thing):
    """Whether thing is an ascending tuple of pairs (NAME, KEY), at least one, no NAME twice."""
    if not isinstance(thing, tuple) or len(thing) == 0:
        return False
    if not all([is_pair(part) and is_name(part[0]) and is_key(depths, part[1]) for part in thing]):
        return False
    return is_ascending([name for name, _ in thing])


def are_rooms(people, thing):
    """Whether thing is an ascending tuple of pairs (NAME, set of NAMEs of these people), no room twice."""
    if not isinstance(thing, tuple):
        return False
    names = [name for name, _ in people]
    if not all([is_pair(part) and is_name(part[0]) and is_name_set(names, part[1]) for part in thing]):
        return False
    return is_ascending([name for name, _ in thing])


def is_name_set(names, thing):
    """Whether thing is a set of one or more of these NAMEs."""
    if not isinstance(thing, tuple) or len(thing) == 0:
        return False
    # only strings are sure to be comparable with each other
    return all([isinstance(part, str) and part in names for part in thing]) and is_ascending(thing)


def key_of(hall, person):
    """The KEY of this person; raises NoName if there is nobody of this NAME."""
    for name, key in hall[1]:
        if name == person:
            return key
    raise NoName(person)


def holders_of(hall, room):
    """Who has this room; raises NoName if there is no room of this NAME."""
    for name, names in hall[2]:
        if name == room:
            return names
    raise NoName(room)


def door_pinned(hall, names):
    """The DOOR pinned for the KEYS of the people with these NAMEs."""
    return door_for([key_of(hall, name) for name in names])


def openers_in(hall, door):
    """The set of the NAMEs of all people who open the DOOR."""
    return tuple([name for name, key in hall[1] if opens(door, key)])


def door_of(hall, room):
    """The DOOR of the room."""
    return door_pinned(hall, holders_of(hall, room))


def who_opens(hall, room):
    """The set of the NAMEs of all people who open the room."""
    return openers_in(hall, door_of(hall, room))


def strangers(hall, room):
    """The set of the NAMEs of the people who open the room and have it not."""
    names = holders_of(hall, room)
    return tuple([name for name in who_opens(hall, room) if name not in names])


def rooms_of(hall, person):
    """The set of the NAMEs of the rooms that the KEY of this person opens."""
    key = key_of(hall, person)
    return tuple([room for room, names in hall[2] if opens(door_pinned(hall, names), key)])


def strange(hall):
    """The set of the pairs (person, room) of strangers to a room."""
    return tuple(sorted([(name, room) for room, _ in hall[2] for name in strangers(hall, room)]))


def is_kept(hall):
    """Whether there are no strangers."""
    return strange(hall) == ()


def with_person(hall, person, room):
    """The HALL in which this person has this room, too."""
    key_of(hall, person)
    names = holders_of(hall, room)
    more = names if person in names else sorted([*names, person])
    rooms = [(name, more if name == room else others) for name, others in hall[2]]
    return as_tuples((hall[0], hall[1], rooms))


def new_strangers(hall, person, room):
    """The pairs of strange of the HALL in which this person has this room, too, that are none of this one."""
    known = strange(hall)
    return tuple([pair for pair in strange(with_person(hall, person, room)) if pair not in known])


def closure(hall, names):
    """The least closed set of NAMEs with these."""
    return openers_in(hall, door_pinned(hall, names))


def is_closed(hall, names):
    """Whether the DOOR pinned for these people opens for nobody else."""
    return closure(hall, names) == tuple(names)


def how_many_closed(hall):
    """How many closed sets of NAMEs there are."""
    keys = [key for _, key in hall[1]]
    marks_of_cuts = [marks_with_cuts(keys, pin) for pin in range(len(hall[0]))]
    # a choice is told by the marks of who is in it, and for each pin by the marks of whose cut its DOOR lets there
    choices = [(0, [0] * len(hall[0]))]
    for at, key in enumerate(keys):
        same = [marks_of[cut] for marks_of, cut in zip(marks_of_cuts, key)]
        choices = [further for choice in choices for further in choices_after(choice, at, same)]
    # the choice of nobody is no closed set
    return len(choices) - 1


def choices_after(choice, at, same):
    """The choices without and with the next person whose DOOR opens for none of those who were left out."""
    chosen, lets = choice
    wider = [let | here for let, here in zip(lets, same)]
    with_next = (chosen | (1 << at), wider)
    return [each for each in ((chosen, lets), with_next) if not opens_for_others(each, at)]


def opens_for_others(choice, last):
    """Whether the DOOR of the choice opens for somebody up to the last one who is not in it."""
    chosen, lets = choice
    others = all_marked(last + 1) & ~chosen
    for let in lets:
        others = others & let
    return others != 0

"""Private rooms, which no COMMON KEY must open, beside the ROOMs of OWN KEYS."""

from undermasters.basics import as_tuples
from undermasters.cuts import common_cuts, first_bar, opened_by
from undermasters.doors import door_for
from undermasters.shutout import how_many_shut_out, nth_shut_out, number_shut_out, ranks_shut_out, room_of


def is_harmless(depths, common, own, key):
    """Whether the KEY is no COMMON KEY and opens the ROOM of none of own."""
    return tuple(key) not in as_tuples(common) and opened_by(common, own, key) == ()


def harmed_doors(common, own):
    """The DOORs of which the harmless KEYS, and no others, open none."""
    return [room_of(common, key) for key in own] + [door_for([key]) for key in common]


def how_many_harmless(depths, common, own):
    """How many KEYS are harmless."""
    return how_many_shut_out(depths, harmed_doors(common, own))


def harmless_ranks(depths, common, own):
    """For each RANK how many KEYS of this RANK are harmless."""
    return ranks_shut_out(depths, common, harmed_doors(common, own))


def nth_harmless(depths, common, own, number):
    """The harmless KEY with this number, from 0, ascending; raises NoNumber if there is none."""
    return nth_shut_out(depths, harmed_doors(common, own), number)


def number_of_harmless(depths, common, own, key):
    """The number of this KEY among the harmless ones; None if it is not harmless."""
    return number_shut_out(depths, harmed_doors(common, own), key)


def is_house_closed(depths, common, own, private):
    """Whether nobody opens the room of another one."""
    return breach(depths, common, own, private) is None


def breach(depths, common, own, private):
    """The least pair (one, other) of a KEY and of another one's KEY whose room it opens; None if there is none."""
    lets = common_cuts(common)
    owners, hidden, masters = as_tuples(own), as_tuples(private), as_tuples(common)
    pairs = [(one, other) for one in owners for other in owners if one != other and first_bar(lets, one, other) is None]
    pairs.extend([(one, other) for one in hidden for other in owners if first_bar(lets, one, other) is None])
    pairs.extend([(key, key) for key in hidden if key in owners or key in masters])
    return min(pairs, default=None)


def kept_private(depths, common, private, key):
    """The set of those of private that are harmless if the KEY is the only OWN KEY."""
    return as_tuples([one for one in private if is_harmless(depths, common, (key,), one)])

"""Further KEYS: those with which quiet OWN KEYS stay quiet."""

from undermasters.basics import marked
from undermasters.cuts import common_cuts, how_many_keys, nth_key, opened_by, openers_of
from undermasters.openings import opened_marks, opener_marks
from undermasters.shutout import how_many_shut_out, nth_shut_out, number_shut_out, ranks_shut_out, room_of


def is_further(depths, common, own, key):
    """Whether the KEY is none of own and they are quiet with it, too."""
    return who_bars(depths, common, own, key) == ((), ())


def who_bars(depths, common, own, key):
    """The pair of the set of those of own whose ROOMs the KEY opens, and of those that open the ROOM of the KEY."""
    return (opened_by(common, own, key), openers_of(common, own, key))


def barred_doors(depths, common, own):
    """The DOORs of which the further KEYS, and no others, open none."""
    lets = common_cuts(common)
    return [room_of(common, key) for key in own] + [rooms_opened(depths, lets, key) for key in own]


def rooms_opened(depths, lets, key):
    """The DOOR that just those KEYS open whose ROOMs this KEY opens."""
    return [tuple(range(depth)) if cut in cuts else (cut,) for depth, cuts, cut in zip(depths, lets, key)]


def how_many_further(depths, common, own):
    """How many KEYS are further."""
    return how_many_shut_out(depths, barred_doors(depths, common, own))


def further_ranks(depths, common, own):
    """For each RANK how many KEYS of this RANK are further."""
    return ranks_shut_out(depths, common, barred_doors(depths, common, own))


def nth_further(depths, common, own, number):
    """The further KEY with this number, from 0, ascending; raises NoNumber if there is none."""
    return nth_shut_out(depths, barred_doors(depths, common, own), number)


def number_of_further(depths, common, own, key):
    """The number of this KEY among the further ones; None if it is not further."""
    return number_shut_out(depths, barred_doors(depths, common, own), key)


def best_addition(depths, common, own):
    """The pair of the least further KEY with which the most KEYS stay further, and of how many these are, or None."""
    keys = further_keys(depths, common, own)
    opened = opened_marks(common, keys)
    best = None
    for key, marks, others in zip(keys, opened, opener_marks(opened)):
        left = len(keys) - len(marked(marks | others))
        if best is None or left > best[1]:
            best = (key, left)
    return best


def further_keys(depths, common, own):
    """The set of all further KEYS; for DEPTHS of few KEYS."""
    keys = [nth_key(depths, number) for number in range(how_many_keys(depths))]
    return tuple([key for key in keys if is_further(depths, common, own, key)])

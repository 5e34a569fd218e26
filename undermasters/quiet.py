"""Quiet OWN KEYS: clashes, and the share that shows how many more there can be."""

from undermasters.basics import as_tuples, marked
from undermasters.chains import above_marks, fewest_chains, least_left_out
from undermasters.cuts import rank
from undermasters.errors import NotQuiet
from undermasters.more import how_many_further
from undermasters.most import most_rooms, rank_sizes
from undermasters.openings import opened_marks
from undermasters.ranks import sum_of_parts


def is_quiet(depths, common, own):
    """Whether none of own opens the ROOM of another one."""
    return len(clashes(depths, common, own)) == 0


def clashes(depths, common, own):
    """The ascending list of the pairs (one, other) of two of own of which one opens the ROOM of other."""
    keys = as_tuples(own)
    opened = opened_marks(common, keys)
    return [(keys[at], keys[other]) for at, marks in enumerate(opened) for other in marked(marks) if other != at]


def least_taken_out(depths, common, own):
    """The least set of as few of own as can be without which the others are quiet."""
    above = above_marks(common, own)
    return as_tuples([own[place] for place in least_left_out(fewest_chains(above), above)])


def share(depths, common, own):
    """The sum over own of 1 divided by how many ROWs of the RANK of the KEY there are."""
    return share_of_ranks(depths, common, ranks_of(depths, common, own))


def most_more(depths, common, own):
    """How many KEYS more there can be at the most, by the share; raises NotQuiet if own are not quiet."""
    pairs = clashes(depths, common, own)
    if pairs:
        one, other = pairs[0]
        raise NotQuiet(one, other)
    top, bottom = share(depths, common, own)
    return (bottom - top) * most_rooms(depths, common) // bottom


def is_greatest(depths, common, own):
    """Whether own are quiet and as many as can be."""
    return len(own) == most_rooms(depths, common) and is_quiet(depths, common, own)


def is_full(depths, common, own):
    """Whether own are quiet and no KEY is further to them."""
    return is_quiet(depths, common, own) and how_many_further(depths, common, own) == 0


def share_of_ranks(depths, common, counts):
    """The share of as many KEYS of each RANK as the counts tell."""
    return sum_of_parts(counts, rank_sizes(depths, common))


def can_be_by_share(depths, common, counts):
    """Whether the share of as many KEYS of each RANK is at most 1."""
    top, bottom = share_of_ranks(depths, common, counts)
    return top <= bottom


def ranks_of(depths, common, own):
    """For each RANK how many of own have it."""
    counts = [0] * (len(depths) + 1)
    for key in own:
        counts[rank(common, key)] += 1
    return tuple(counts)

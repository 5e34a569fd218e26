"""How many rooms there can be at the most: ROWs of a RANK, their numbers, and KEYS for them."""

from undermasters.basics import how_many_choices
from undermasters.cuts import common_cuts
from undermasters.errors import NoNumber
from undermasters.ranks import Picks, coefficients, places_of_greatest


def widths_of(depths, common):
    """For each pin the pair of how many cuts are common there and of how many are not."""
    return [(len(cuts), depth - len(cuts)) for depth, cuts in zip(depths, common_cuts(common))]


def rank_sizes(depths, common):
    """For each RANK how many unlike ROWs KEYS of this RANK have."""
    return coefficients([(1, free) for _, free in widths_of(depths, common)])


def most_rooms(depths, common):
    """How many OWN KEYS can be quiet at the most."""
    return max(rank_sizes(depths, common))


def best_ranks(depths, common):
    """The set of the RANKs with the most ROWs."""
    return places_of_greatest(rank_sizes(depths, common))


def most_without_rows(depths, common, many):
    """How many unlike OWN KEYS there can be without many + 1 of which each one opens the ROOM of the next one."""
    return sum(sorted(rank_sizes(depths, common), reverse=True)[:many])


def row_picks(depths, common):
    """The ROWs as Picks: a cut that is not free is None, which is less than all cuts."""
    return Picks([free for _, free in widths_of(depths, common)], [0 for _ in depths])


def nth_room(depths, common, free, number):
    """The KEY with the ROW of the RANK free that has this number; raises NoNumber if there is none."""
    rows = row_picks(depths, common)
    if not 0 <= number < rows.many_with(free):
        raise NoNumber(number)
    return key_of_picks(common_cuts(common), rows.nth(free, number))


def key_of_picks(lets, picks):
    """The KEY with these free cuts, and with the least common cut at each other pin."""
    return tuple([cuts[0] if place is None else nth_free_cut(cuts, place) for cuts, place in zip(lets, picks)])


def nth_free_cut(cuts, place):
    """The cut with this number, from 0, among those that are none of the set of cuts."""
    cut = place
    for each in cuts:
        if each <= cut:
            cut += 1
    return cut


def place_of_free_cut(cuts, cut):
    """The number of this cut, from 0, among those that are none of the set of cuts; None if it is one of these."""
    if cut in cuts:
        return None
    return cut - len([each for each in cuts if each < cut])


def number_of_room(depths, common, key):
    """The number of the ROW of the KEY among those of its RANK."""
    places = [place_of_free_cut(cuts, cut) for cuts, cut in zip(common_cuts(common), key)]
    return row_picks(depths, common).number_of(places)


def rank_rooms(depths, common, free):
    """The set of one KEY for each ROW of this RANK."""
    rows, lets = row_picks(depths, common), common_cuts(common)
    return tuple(sorted([key_of_picks(lets, rows.nth(free, number)) for number in range(rows.many_with(free))]))


def keys_like(depths, common, key):
    """How many KEYS are alike to this one, itself among them."""
    return how_many_choices([len(cuts) for cuts, cut in zip(common_cuts(common), key) if cut in cuts])


def how_many_of_rank(depths, common, free):
    """How many KEYS have this RANK."""
    return coefficients(widths_of(depths, common))[free]


def one_more_pin(depths, common, depth):
    """How many rooms more there can be with a pin of so many depths at the end, where the COMMON KEYS have 0."""
    longer = [[*key, 0] for key in common]
    return most_rooms([*depths, depth], longer) - most_rooms(depths, common)

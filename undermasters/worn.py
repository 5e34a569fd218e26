"""Worn DOORs, which let cuts, too, that are a little off: how many OWN KEYS can be quiet then."""

from undermasters.basics import as_tuples, is_number, place_in
from undermasters.cuts import common_cuts
from undermasters.errors import NoNumber
from undermasters.ranks import Picks, coefficients, places_of_greatest, sum_of_parts


def is_worn(depths, thing):
    """Whether thing is a tuple of as many numbers from 0 as there are pins."""
    if not isinstance(thing, tuple) or len(thing) != len(depths):
        return False
    return all([is_number(part) and part >= 0 for part in thing])


def opens_worn(common, worn, one, other):
    """Whether one opens the worn ROOM of other."""
    return worn_bar(common, worn, one, other) is None


def worn_bar(common, worn, one, other):
    """The first pin at which one does not open the worn ROOM of other; None if it opens it."""
    return first_worn_bar(worn_free_pins(common_cuts(common), worn, one), worn, one, other)


def first_worn_bar(pins, worn, one, other):
    """The first of the pins at which the cut of one is too far from that of other; None if there is none."""
    for pin in pins:
        if abs(one[pin] - other[pin]) > worn[pin]:
            return pin
    return None


def worn_free_pins(lets, worn, key):
    """The pins at which the cut of the KEY is too far from each common cut."""
    return [pin for pin, gap in enumerate(gaps_to(lets, key)) if gap > worn[pin]]


def gaps_to(lets, key):
    """For each pin how far the cut of the KEY is from the nearest common one."""
    return [min([abs(cut - each) for each in cuts]) for cuts, cut in zip(lets, key)]


def worn_rank(common, worn, key):
    """The worn RANK of the KEY: how many worn free pins it has."""
    return len(worn_free_pins(common_cuts(common), worn, key))


def stretches(depth, cuts, wear):
    """The pairs (first cut, length) of the stretches at a pin that has these common cuts, ascending."""
    found, first = [], 0
    for cut in cuts:
        if cut - wear > first:
            found.append((first, cut - wear - first))
        first = max(first, cut + wear + 1)
    if first < depth:
        found.append((first, depth - first))
    return found


def how_many_apart(length, wear):
    """How many cuts of so many neighbouring ones can be, each further than wear from the next one."""
    return (length + wear) // (wear + 1)


def stretches_by_pin(depths, common, worn):
    """For each pin its stretches."""
    return [stretches(depth, cuts, wear) for depth, cuts, wear in zip(depths, common_cuts(common), worn)]


def how_many_in(found, wear):
    """How many cuts, each further than wear from the next one, can be in these stretches together."""
    return sum([how_many_apart(length, wear) for _, length in found])


def sizes(depths, common, worn):
    """For each pin its size."""
    return tuple([how_many_in(found, wear) for found, wear in zip(stretches_by_pin(depths, common, worn), worn)])


def worn_sizes(depths, common, worn):
    """The tuple of V(0), V(1), .. up to the number of pins."""
    return coefficients([(1, size) for size in sizes(depths, common, worn)])


def most_worn(depths, common, worn):
    """The greatest V(r)."""
    return max(worn_sizes(depths, common, worn))


def worn_ranks(depths, common, worn):
    """The set of the r with the greatest V(r)."""
    return places_of_greatest(worn_sizes(depths, common, worn))


# Of each stretch the first cut, the one that is one more than worn behind it, and so on are taken; at a pin that is not
# worn free the least common cut. KEYS of one worn RANK that are made of these cuts alone are worn quiet together.


def worn_picks(depths, common, worn):
    """The KEYS that are made of the taken cuts alone as Picks: the least common cut is None."""
    aheads = [how_many_in(stretches_below(found, cuts[0]), wear)
              for found, cuts, wear in zip(stretches_by_pin(depths, common, worn), common_cuts(common), worn)]
    return Picks(sizes(depths, common, worn), aheads)


def stretches_below(found, cut):
    """Those of the stretches that stand below this common cut."""
    return [(first, length) for first, length in found if first < cut]


def nth_taken(found, wear, number):
    """The cut with this number, from 0, of those that are taken of the stretches."""
    place, rest = place_in([how_many_apart(length, wear) for _, length in found], number)
    first, _ = found[place]
    return first + rest * (wear + 1)


def place_of_taken(found, wear, cut):
    """The number of this cut among those that are taken of the stretches; None if it is none of them."""
    ahead = 0
    for first, length in found:
        if first <= cut < first + length:
            place, rest = divmod(cut - first, wear + 1)
            return ahead + place if rest == 0 else None
        ahead += how_many_apart(length, wear)
    return None


def nth_worn(depths, common, worn, rank, number):
    """Of V(rank) KEYS of this worn RANK, worn quiet together, the one with this number; raises NoNumber if none has."""
    picks = worn_picks(depths, common, worn)
    if not 0 <= number < picks.many_with(rank):
        raise NoNumber(number)
    pins = list(zip(picks.nth(rank, number), stretches_by_pin(depths, common, worn), common_cuts(common), worn))
    return tuple([cuts[0] if place is None else nth_taken(found, wear, place) for place, found, cuts, wear in pins])


def number_worn(depths, common, worn, key):
    """The number of the KEY among those of its worn RANK that nth_worn tells; None if it is none of them."""
    places = []
    for cut, found, cuts, wear in zip(key, stretches_by_pin(depths, common, worn), common_cuts(common), worn):
        place = place_of_taken(found, wear, cut)
        if place is None and cut != cuts[0]:
            return None
        places.append(place)
    return worn_picks(depths, common, worn).number_of(places)


def is_worn_quiet(common, worn, own):
    """Whether none of own opens the worn ROOM of another one."""
    return len(worn_clashes(common, worn, own)) == 0


def worn_clashes(common, worn, own):
    """The set of the pairs (one, other) of two of own such that one opens the worn ROOM of other."""
    lets, keys, pairs = common_cuts(common), as_tuples(own), []
    for one in keys:
        pins = worn_free_pins(lets, worn, one)
        pairs.extend([(one, other) for other in keys
                      if one != other and first_worn_bar(pins, worn, one, other) is None])
    return tuple(pairs)


def worn_share(depths, common, worn, own):
    """The sum over own of 1 / V(worn RANK)."""
    counts = [0] * (len(depths) + 1)
    for key in own:
        counts[worn_rank(common, worn, key)] += 1
    return sum_of_parts(counts, worn_sizes(depths, common, worn))


def wears_to(common, own):
    """The greatest number with which at all pins own are worn quiet; -1 if there is none, None if they always are."""
    if len(own) < 2:
        return None
    lets = common_cuts(common)
    # no two cuts are so far apart
    least = 1 + max([max(key) for key in own])
    for at, one in enumerate(own):
        gaps = gaps_to(lets, one)
        for place, other in enumerate(own):
            if place != at:
                least = least_wear(one, gaps, other, least)
    return least - 1


def least_wear(one, gaps, other, bound):
    """The least number with which at all pins one opens the worn ROOM of other; bound if it is not less than that."""
    wear = 0
    for cut, gap, there in zip(one, gaps, other):
        off = abs(cut - there)
        if off > wear and gap > wear:
            wear = gap if gap < off else off
            if wear >= bound:
                return bound
    return wear


def worn_rest(depths, common, worn, own):
    """The greatest number of further KEYS that the guarantee lets beside worn quiet own."""
    top, bottom = worn_share(depths, common, worn, own)
    return (bottom - top) * most_worn(depths, common, worn) // bottom

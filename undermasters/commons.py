"""Which COMMON KEYS: what a further one costs, and which KEYS are fit to be the only one for told OWN KEYS."""

from undermasters.basics import as_tuples
from undermasters.cuts import clash, common_cuts
from undermasters.most import most_rooms, nth_free_cut, widths_of
from undermasters.ranks import coefficients
from undermasters.shutout import how_many_shut_out, nth_shut_out, number_shut_out


def cost_of(depths, common, key):
    """How many rooms fewer there are if the KEY is a COMMON KEY, too."""
    return most_rooms(depths, common) - most_rooms(depths, [*common, key])


def costs_nothing(depths, common, key):
    """Whether there are no rooms fewer if the KEY is a COMMON KEY, too."""
    return cost_of(depths, common, key) == 0


def with_new_at(depths, common, pins):
    """The KEY with the least cut that is not common at each of the pins, and the least common one at all others."""
    return tuple([nth_free_cut(cuts, 0) if pin in pins else cuts[0] for pin, cuts in enumerate(common_cuts(common))])


# If a cut becomes common at one of two pins, the sum of how many are free at both falls alike, whichever pin it is; but
# their product falls less at the pin with more of them. So, for each RANK, as many ROWs as can be are left if cuts
# become common at the pins with the most free ones; also if some pins are taken and some are left out at first.


def frees_of(depths, common):
    """For each pin how many cuts are not common there."""
    return [free for _, free in widths_of(depths, common)]


def pins_with_free(frees):
    """The pins at which some cut is not common."""
    return [pin for pin, free in enumerate(frees) if free > 0]


def widest(frees, pins, many):
    """So many of the pins, those with the most free cuts."""
    return sorted(pins, key=lambda pin: -frees[pin])[:many]


def rooms_with(frees, pins):
    """How many rooms there can be at the most if at each of these pins one more cut is common."""
    return max(coefficients([(1, free - 1 if pin in pins else free) for pin, free in enumerate(frees)]))


def best_pins(depths, common, many):
    """The least set of so many pins at which new cuts cost the fewest rooms; None if there are not so many."""
    frees = frees_of(depths, common)
    pins = pins_with_free(frees)
    if not 0 <= many <= len(pins):
        return None
    rooms, chosen = rooms_with(frees, widest(frees, pins, many)), []
    for at, pin in enumerate(pins):
        if len(chosen) < many:
            tried = [*chosen, pin]
            if rooms_with(frees, [*tried, *widest(frees, pins[at + 1:], many - len(tried))]) == rooms:
                chosen = tried
    return tuple(chosen)


def least_cost(depths, common, many):
    """How many rooms new cuts at so many pins cost at the least; None if there are not so many."""
    frees = frees_of(depths, common)
    pins = pins_with_free(frees)
    if not 0 <= many <= len(pins):
        return None
    return rooms_with(frees, []) - rooms_with(frees, widest(frees, pins, many))


def is_fit(own, key):
    """Whether own are quiet with the KEY as the only COMMON KEY."""
    return unfit_pair(own, key) is None


def unfit_pair(own, key):
    """The least pair (one, other) of own of which one opens the ROOM of other under the KEY alone, or None."""
    return clash([key], sorted(as_tuples(own)))


def unfit_doors(depths, own):
    """The DOORs of which the fit KEYS, and no others, open none: for each pair those under which one opens other."""
    return [opening_commons(depths, one, other) for one in own for other in own if one != other]


def opening_commons(depths, one, other):
    """The DOOR that just those KEYS open under which, as the only COMMON KEY, one opens the ROOM of other."""
    return [tuple(range(depth)) if cut == there else (cut,) for depth, cut, there in zip(depths, one, other)]


def how_many_fit(depths, own):
    """How many KEYS are fit for own."""
    return how_many_shut_out(depths, unfit_doors(depths, own))


def nth_fit(depths, own, number):
    """The fit KEY with this number, from 0, ascending; raises NoNumber if there is none."""
    return nth_shut_out(depths, unfit_doors(depths, own), number)


def number_of_fit(depths, own, key):
    """The number of this KEY among the fit ones; None if it is not fit."""
    return number_shut_out(depths, unfit_doors(depths, own), key)

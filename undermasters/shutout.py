"""The KEYS that open none of several DOORs: how many there are, also of each RANK, and their numbers."""

from undermasters.basics import all_marked, how_many_choices, place_in
from undermasters.cuts import common_cuts, how_many_keys, nth_key
from undermasters.doors import door_for
from undermasters.errors import NoNumber


def room_of(common, key):
    """The ROOM of the KEY."""
    return door_for([*common, key])


class ShutOut:
    """Weighs the ends of KEYS that open none of several DOORs; what was weighed is kept.

    An end weighs the product of the weights of its cuts: with 1 for each cut all its ends weigh how many they are.
    """

    def __init__(self, weights, doors):
        self.every = all_marked(len(doors))
        self.lets = [marks_by_cut(len(row), [door[pin] for door in doors]) for pin, row in enumerate(weights)]
        self.groups = [grouped(row, marks) for row, marks in zip(weights, self.lets)]
        self.wholes = wholes_of(weights)
        self.letting = letting_of(self.lets, self.every)
        self.known = {}

    def weigh(self, pin, marks):
        """What the ends, from this pin on, weigh that none of the marked DOORs lets."""
        if marks == 0:
            return self.wholes[pin]
        if marks & self.letting[pin] != 0:
            return 0
        if (pin, marks) not in self.known:
            shares = [weight * self.weigh(pin + 1, marks & here) for here, weight in self.groups[pin]]
            self.known[pin, marks] = sum(shares)
        return self.known[pin, marks]


def marks_by_cut(depth, sets):
    """For each cut the marks of the sets of cuts that it is in."""
    marks = [0] * depth
    for at, cuts in enumerate(sets):
        for cut in cuts:
            marks[cut] |= 1 << at
    return marks


def grouped(weights, marks):
    """The pairs of different marks and of what the cuts with just these marks weigh together."""
    by_marks = {}
    for weight, here in zip(weights, marks):
        by_marks[here] = by_marks.get(here, 0) + weight
    return list(by_marks.items())


def wholes_of(weights):
    """For each pin, and for the end, what all ends from there on weigh."""
    wholes = [1]
    for row in weights[::-1]:
        wholes.append(wholes[-1] * sum(row))
    return wholes[::-1]


def letting_of(lets, every):
    """For each pin, and for the end, the marks of the DOORs that let all ends from there on."""
    letting = [every]
    for row in lets[::-1]:
        marks = letting[-1]
        for here in row:
            marks = marks & here
        letting.append(marks)
    return letting[::-1]


def counted(depths, doors):
    """The ends of KEYS, each of which weighs 1."""
    return ShutOut([[1] * depth for depth in depths], doors)


def how_many_shut_out(depths, doors):
    """How many KEYS open none of the DOORs."""
    ends = counted(depths, doors)
    return ends.weigh(0, ends.every)


def ranks_shut_out(depths, common, doors):
    """For each RANK how many KEYS of this RANK open none of the DOORs."""
    # No count needs more bits than the count of all KEYS. So if each free pin moves a KEY's 1 by that many bits, the
    # counts of all RANKs stand side by side in one number.
    bits = how_many_choices(depths).bit_length()
    weights = [[1 if cut in cuts else 1 << bits for cut in range(depth)]
               for depth, cuts in zip(depths, common_cuts(common))]
    ends = ShutOut(weights, doors)
    total = ends.weigh(0, ends.every)
    return tuple([(total >> (bits * free)) & all_marked(bits) for free in range(len(depths) + 1)])


def nth_shut_out(depths, doors, number):
    """The KEY with this number, from 0, ascending, of those that open no DOOR; raises NoNumber if there is none."""
    ends = counted(depths, doors)
    if not 0 <= number < ends.weigh(0, ends.every):
        raise NoNumber(number)
    return nth_of_ends(ends, number)


def nth_of_ends(ends, number):
    """The KEY with this number of those that open no DOOR; there must be one."""
    key, left, marks = [], number, ends.every
    for pin, row in enumerate(ends.lets):
        cut, left = place_in([ends.weigh(pin + 1, marks & here) for here in row], left)
        key.append(cut)
        marks = marks & row[cut]
    return tuple(key)


def number_shut_out(depths, doors, key):
    """The number of this KEY among those that open none of the DOORs; None if it opens one of them."""
    number, marks = below_and_opened(counted(depths, doors), key)
    return number if marks == 0 else None


def below_and_opened(ends, key):
    """How many of the KEYS that open no DOOR are less than this KEY, and the marks of the DOORs that it opens."""
    number, marks = 0, ends.every
    for pin, cut in enumerate(key):
        row = ends.lets[pin]
        number += sum([ends.weigh(pin + 1, marks & here) for here in row[:cut]])
        marks = marks & row[cut]
    return (number, marks)


def least_shut_out(depths, doors, number):
    """The KEY with the least number, from this one on, that opens none of the DOORs; None if there is none."""
    if number >= how_many_keys(depths):
        return None
    ends = counted(depths, doors)
    below, _ = below_and_opened(ends, nth_key(depths, max(0, number)))
    return nth_of_ends(ends, below) if below < ends.weigh(0, ends.every) else None

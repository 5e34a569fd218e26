"""KEYS changed: other KEYS in the place of quiet OWN KEYS, and all KEYS cut anew alike."""

from undermasters.basics import all_marked
from undermasters.doors import door_for
from undermasters.errors import NoKey
from undermasters.more import barred_doors
from undermasters.shutout import least_shut_out, marks_by_cut


def next_key(depths, common, own, number):
    """The KEY with the least number, from this one on, that goes with own; None if there is none."""
    return least_shut_out(depths, barred_doors(depths, common, own), number)


def room_more(depths, common, own):
    """The least KEY that goes with own; None if there is none."""
    return next_key(depths, common, own, 0)


def barred_to_fresh(depths, common, own, key):
    """The DOORs of which the others than this OWN KEY that go with own without it open none; raises NoKey."""
    others = [each for each in own if tuple(each) != tuple(key)]
    if len(others) == len(own):
        raise NoKey(key)
    return [*barred_doors(depths, common, others), door_for([key])]


def fresh_for(depths, common, own, key):
    """The least other KEY that goes with own without this OWN KEY; None if there is none; raises NoKey."""
    return least_shut_out(depths, barred_to_fresh(depths, common, own, key), 0)


def nearest_key(depths, common, own, key):
    """Likewise, but the least of those that have other cuts than this OWN KEY at the fewest pins."""
    return Nearest(depths, barred_to_fresh(depths, common, own, key), key).least()


class Nearest:
    """The ends of KEYS that open none of several DOORs and have other cuts than one KEY at the fewest pins."""

    def __init__(self, depths, doors, key):
        self.every = all_marked(len(doors))
        self.lets = [marks_by_cut(depth, [door[pin] for door in doors]) for pin, depth in enumerate(depths)]
        self.costs = [[0 if cut == each else 1 for each in range(depth)] for depth, cut in zip(depths, key)]
        # more pins than there are: no end is so
        self.never = len(depths) + 1
        self.known = {}

    def fewest(self, pin, marks):
        """At how few pins, from this one on, other cuts do such that none of the marked DOORs lets the end."""
        if marks == 0:
            return 0
        if pin == len(self.lets):
            return self.never
        if (pin, marks) not in self.known:
            pairs = {(cost, marks & here): True for cost, here in zip(self.costs[pin], self.lets[pin])}
            self.known[pin, marks] = min([cost + self.fewest(pin + 1, left) for cost, left in pairs])
        return self.known[pin, marks]

    def least(self):
        """The least KEY of those with other cuts at the fewest pins; None if all KEYS open some DOOR."""
        marks, many = self.every, self.fewest(0, self.every)
        if many >= self.never:
            return None
        key = []
        for pin, row in enumerate(self.lets):
            needs = [cost + self.fewest(pin + 1, marks & here) for cost, here in zip(self.costs[pin], row)]
            cut = needs.index(many)
            many -= self.costs[pin][cut]
            marks = marks & row[cut]
            key.append(cut)
        return tuple(key)


def recut(keys, pin, cuts):
    """The KEYS in which at this pin cuts[c] stands in the place of each cut c."""
    return tuple(sorted([(*key[:pin], cuts[key[pin]], *key[pin + 1:]) for key in keys]))


def reordered(keys, pins):
    """The KEYS of which the k-th cut is that at pins[k]."""
    return tuple(sorted([tuple([key[pin] for pin in pins]) for key in keys]))


def with_pin(keys, pin, cut):
    """The KEYS with one pin more, the one with this number, at which all have this cut."""
    # with the same cut in all of them the KEYS stay ascending
    return tuple([(*key[:pin], cut, *key[pin:]) for key in keys])

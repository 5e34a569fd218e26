"""A Board of quiet OWN KEYS, with deeds that can be taken back."""

from undermasters.basics import as_tuples
from undermasters.cuts import clash
from undermasters.errors import NoKey, NothingDone, NotQuiet, Twice
from undermasters.quiet import most_more, share


class Board:
    """OWN KEYS of these DEPTHS and COMMON KEYS, at first (), that are always quiet."""

    def __init__(self, depths, common):
        self.lock = as_tuples(depths)
        self.masters = as_tuples(common)
        self.owners = ()
        # the OWN KEYS ahead of each deed that undo can take back
        self.earlier = []

    def __eq__(self, other):
        return (isinstance(other, Board) and self.lock == other.lock and self.masters == other.masters
                and self.owners == other.owners)

    def __len__(self):
        return len(self.owners)

    def __contains__(self, key):
        return as_tuples(key) in self.owners

    def depths(self):
        """The DEPTHS."""
        return self.lock

    def common(self):
        """The COMMON KEYS."""
        return self.masters

    def own(self):
        """The OWN KEYS."""
        return self.owners

    def share(self):
        """The share of the OWN KEYS."""
        return share(self.lock, self.masters, self.owners)

    def most_more(self):
        """How many OWN KEYS more there can be at the most, by the share."""
        return most_more(self.lock, self.masters, self.owners)

    def put(self, key):
        """Puts in this KEY; raises Twice, then NotQuiet."""
        fresh = as_tuples(key)
        if fresh in self.owners:
            raise Twice(fresh)
        self.turn_to_quiet([*self.owners, fresh])

    def take_out(self, key):
        """Takes out this KEY; raises NoKey."""
        self.turn_to(self.others_than(key))

    def change(self, key, fresh):
        """Puts fresh in the place of this KEY; raises NoKey, then Twice, then NotQuiet."""
        others = self.others_than(key)
        other = as_tuples(fresh)
        if other in others:
            raise Twice(other)
        self.turn_to_quiet([*others, other])

    def others_than(self, key):
        """The OWN KEYS without this one; raises NoKey if it is none of them."""
        gone = as_tuples(key)
        if gone not in self.owners:
            raise NoKey(gone)
        return [each for each in self.owners if each != gone]

    def turn_to_quiet(self, keys):
        """Makes these KEYS the OWN KEYS, as a deed; raises NotQuiet if they are not quiet."""
        owners = sorted(keys)
        pair = clash(self.masters, owners)
        if pair is not None:
            one, other = pair
            raise NotQuiet(one, other)
        self.turn_to(owners)

    def turn_to(self, owners):
        """Makes these quiet KEYS, ascending, the OWN KEYS, as a deed."""
        self.earlier.append(self.owners)
        self.owners = tuple(owners)

    def undo(self):
        """Takes back the last deed that was not taken back; raises NothingDone if there is none."""
        if len(self.earlier) == 0:
            raise NothingDone()
        self.owners = self.earlier.pop()

    def deeds(self):
        """How many deeds undo can take back."""
        return len(self.earlier)

    def twin(self):
        """A new Board with the same OWN KEYS and deeds, that shares nothing with this one."""
        other = Board(self.lock, self.masters)
        other.owners = self.owners
        other.earlier = list(self.earlier)
        return other

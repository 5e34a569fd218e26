"""Told KEYS covered by as few ROWS OF OPENERS, or by as few quiet sets, as can be."""

from undermasters.basics import as_tuples, is_ascending, is_number
from undermasters.chains import above_marks, fewest_chains, layers, longest_chain, one_of_each, without_place
from undermasters.openings import opened_marks, opener_marks


def keys_at(keys, places):
    """The tuple of the KEYS at these places."""
    return as_tuples([keys[place] for place in places])


def most_quiet(common, keys):
    """How many KEYS the greatest quiet set of them has."""
    return len(fewest_chains(above_marks(common, keys)))


def quiet_among(common, keys):
    """A greatest quiet set of the KEYS."""
    above = above_marks(common, keys)
    return keys_at(keys, sorted(one_of_each(fewest_chains(above), above)))


def cover_rows(common, keys):
    """As few ROWS OF OPENERS as can be in which each of the KEYS is just once."""
    return tuple([keys_at(keys, chain) for chain in fewest_chains(above_marks(common, keys))])


def longest_row(common, keys):
    """A ROW OF OPENERS of as many of the KEYS, at least one, as can be."""
    return keys_at(keys, longest_chain(above_marks(common, keys)))


def quiet_cover(common, keys):
    """As few quiet sets, none of them (), as can be in which each of the KEYS is just once."""
    return tuple([keys_at(keys, layer) for layer in layers(above_marks(common, keys))])


class Told:
    """Told KEYS: which things are made of them."""

    def __init__(self, common, keys):
        self.plain = as_tuples(keys)
        self.places = {key: place for place, key in enumerate(self.plain)}
        self.opened = opened_marks(common, keys)

    def has(self, thing):
        """Whether thing is one of the KEYS."""
        # True and False are equal to cuts, and what is no tuple of numbers cannot be looked up
        if not isinstance(thing, tuple) or not all([is_number(cut) for cut in thing]):
            return False
        return thing in self.places

    def can_open(self, one, other):
        """Whether the KEY one opens the ROOM of other."""
        return (self.opened[self.places[one]] >> self.places[other]) & 1 == 1

    def is_some(self, thing):
        """Whether thing is a tuple of one or more of the KEYS."""
        return isinstance(thing, tuple) and len(thing) > 0 and all([self.has(key) for key in thing])

    def is_quiet_set(self, thing):
        """Whether thing is a quiet set of the KEYS, not ()."""
        if not self.is_some(thing) or not is_ascending(thing):
            return False
        return not any([self.can_open(one, other) for one in thing for other in thing if one != other])

    def is_row(self, thing):
        """Whether thing is a ROW OF OPENERS."""
        if not self.is_some(thing) or len(set(thing)) < len(thing):
            return False
        return all([self.can_open(one, other) for one, other in zip(thing, thing[1:])])

    def are_each_once(self, parts):
        """Whether each of the KEYS is in just one of the parts, which are made of them, and there just once."""
        return tuple(sorted([key for part in parts for key in part])) == self.plain


def is_quiet_among(common, keys, thing):
    """Whether thing is a quiet set of KEYS of keys."""
    return thing == () or Told(common, keys).is_quiet_set(thing)


def is_opener_row(common, keys, thing):
    """Whether thing is a ROW OF OPENERS."""
    return Told(common, keys).is_row(thing)


def is_row_cover(common, keys, thing):
    """Whether thing is a tuple of ROWS OF OPENERS in which each of the KEYS is just once."""
    told = Told(common, keys)
    return isinstance(thing, tuple) and all([told.is_row(part) for part in thing]) and told.are_each_once(thing)


def is_quiet_cover(common, keys, thing):
    """Whether thing is a tuple of quiet sets, none of them (), in which each of the KEYS is just once."""
    told = Told(common, keys)
    return isinstance(thing, tuple) and all([told.is_quiet_set(part) for part in thing]) and told.are_each_once(thing)


def always_in(common, keys):
    """The set of those of the KEYS that are in each greatest quiet set."""
    above = above_marks(common, keys)
    chains = fewest_chains(above)
    places = [place for place in range(len(keys)) if one_of_each(without_place(chains, place), above) is None]
    return keys_at(keys, places)


def ever_in(common, keys):
    """The set of those of the KEYS that are in some greatest quiet set."""
    above = above_marks(common, keys)
    chains = fewest_chains(above)
    places = [place for place in range(len(keys)) if one_of_each(only_place(chains, place), above) is not None]
    return keys_at(keys, places)


def only_place(chains, place):
    """The chains, where the one with this place has nothing but it."""
    return [[place] if place in chain else chain for chain in chains]


def loners(common, keys):
    """The set of those of the KEYS that open the ROOM of no other one, and whose ROOM no other one opens."""
    opened = opened_marks(common, keys)
    pairs = list(enumerate(zip(opened, opener_marks(opened))))
    return keys_at(keys, [place for place, (marks, others) in pairs if marks | others == 1 << place])

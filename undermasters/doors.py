"""DOORs: which KEYS open one, some, all or just so many of them."""

from undermasters.basics import all_marked, as_tuples, cuts_by_pin, how_many_choices, is_ascending, is_cut
from undermasters.basics import marked, nth_choice, number_of_choice, place_in
from undermasters.errors import NoNumber


def is_door(depths, thing):
    """Whether thing is a DOOR for these DEPTHS."""
    if not isinstance(thing, tuple) or len(thing) != len(depths):
        return False
    return all([is_cut_set(depth, cuts) for depth, cuts in zip(depths, thing)])


def is_cut_set(depth, thing):
    """Whether thing is a set of cuts, at least one, at a pin of so many depths."""
    if not isinstance(thing, tuple) or len(thing) == 0:
        return False
    # only cuts are sure to be comparable with each other
    return all([is_cut(depth, cut) for cut in thing]) and is_ascending(thing)


def door_for(keys):
    """The DOOR pinned for these KEYS, at least one."""
    return cuts_by_pin(keys)


def opens(door, key):
    """Whether the KEY opens the DOOR."""
    return pin_that_bars(door, key) is None


def pin_that_bars(door, key):
    """The first pin at which the DOOR does not let the cut of the KEY; None if the KEY opens it."""
    for pin, cut in enumerate(key):
        if cut not in door[pin]:
            return pin
    return None


def both(door, other):
    """The DOOR that just those KEYS open that open both; None if there are none."""
    shared = [shared_cuts(cuts, others) for cuts, others in zip(door, other)]
    if () in shared:
        return None
    return tuple(shared)


def shared_cuts(cuts, others):
    """The set of those cuts that are among the others, too."""
    return tuple([cut for cut in cuts if cut in others])


def within(door, other):
    """Whether each KEY that opens door opens other, too."""
    return all([cut in other[pin] for pin, cuts in enumerate(door) for cut in cuts])


def widths(door):
    """For each pin how many cuts the DOOR lets."""
    return [len(cuts) for cuts in door]


def how_many_open(door):
    """How many KEYS open the DOOR."""
    return how_many_choices(widths(door))


def how_many_strays(keys):
    """How many others than these KEYS, at least one, open the DOOR pinned for them."""
    return how_many_open(door_for(keys)) - len(keys)


def how_many_some(doors):
    """How many KEYS open at least one of the DOORs."""
    return Ends(lets_by_pin(doors)).how_many(0, all_marked(len(doors)))


def how_many_all(doors):
    """How many KEYS open each one of the DOORs."""
    shared = doors[0]
    for door in doors[1:]:
        shared = both(shared, door)
        if shared is None:
            return 0
    return how_many_open(shared)


def how_many_just(depths, doors, number):
    """How many KEYS of these DEPTHS open just so many of the DOORs."""
    tally = {all_marked(len(doors)): 1}
    for depth, lets in zip(depths, lets_by_pin(doors)):
        tally = tally_after(tally, depth, lets)
    return sum([many for marks, many in tally.items() if len(marked(marks)) == number])


def lets_by_pin(doors):
    """For each pin the list that lets_at tells."""
    return [lets_at(doors, pin) for pin in range(len(doors[0]))]


def lets_at(doors, pin):
    """The pairs (cut, marks) of each cut, ascending, that some of the DOORs let at the pin, and of their marks."""
    marks_of = {}
    for at, door in enumerate(doors):
        for cut in door[pin]:
            marks_of[cut] = marks_of.get(cut, 0) | (1 << at)
    return [(cut, marks_of[cut]) for cut in sorted(marks_of)]


def tally_after(tally, depth, lets):
    """The tally with one pin more; it tells for marks how many beginnings of KEYS just these DOORs let."""
    unlet = depth - len(lets)
    further = {0: unlet * sum(tally.values())}
    for marks, many in tally.items():
        for _, here in lets:
            left = marks & here
            further[left] = further.get(left, 0) + many
    return further


class Ends:
    """Counts the ends of KEYS that some of several DOORs let; what was counted is kept."""

    def __init__(self, lets):
        self.lets = lets
        self.known = {}

    def how_many(self, pin, marks):
        """How many ends, from this pin on, some of the marked DOORs let."""
        if marks == 0:
            return 0
        if pin == len(self.lets):
            return 1
        if (pin, marks) not in self.known:
            self.known[pin, marks] = sum([self.how_many(pin + 1, marks & here) for _, here in self.lets[pin]])
        return self.known[pin, marks]


def nth_opener(door, number):
    """The KEY with this number, from 0, ascending, of those that open the DOOR; raises NoNumber if there is none."""
    if not 0 <= number < how_many_open(door):
        raise NoNumber(number)
    places = nth_choice(widths(door), number)
    return tuple([cuts[place] for cuts, place in zip(door, places)])


def number_of_opener(door, key):
    """The number of this KEY among those that open the DOOR; None if it does not open it."""
    if not opens(door, key):
        return None
    places = [cuts.index(cut) for cuts, cut in zip(door, key)]
    return number_of_choice(widths(door), places)


def nth_of_some(doors, number):
    """The KEY with this number, from 0, ascending, of those that open some DOOR; raises NoNumber if there is none."""
    lets = lets_by_pin(doors)
    ends, marks = Ends(lets), all_marked(len(doors))
    if not 0 <= number < ends.how_many(0, marks):
        raise NoNumber(number)
    key, left = [], number
    for pin, pairs in enumerate(lets):
        place, left = place_in([ends.how_many(pin + 1, marks & here) for _, here in pairs], left)
        cut, here = pairs[place]
        key.append(cut)
        marks = marks & here
    return tuple(key)


def givers(keys, key):
    """For each pin the set of those of KEYS that have the cut of the KEY there."""
    return tuple([with_cut(keys, pin, cut) for pin, cut in enumerate(key)])


def with_cut(keys, pin, cut):
    """The set of those of KEYS that have this cut at the pin."""
    return as_tuples([one for one in keys if one[pin] == cut])


def fewest_makers(keys, key):
    """The least set of as few of KEYS as can be for which a DOOR is pinned that the KEY opens, or None."""
    gives = [pins_given(one, key) for one in keys]
    makers, every = Makers(gives), all_marked(len(key))
    if makers.behind[0] != every:
        return None
    widest = max([len(marked(marks)) for marks in gives])
    # fewer ones, each of which gives widest pins at the most, cannot give all
    many = (len(key) + widest - 1) // widest
    places = makers.least(0, every, many)
    while places is None:
        many += 1
        places = makers.least(0, every, many)
    return as_tuples([keys[place] for place in places])


def pins_given(one, key):
    """The marks of the pins at which the KEY one has the cut of key."""
    return sum([1 << pin for pin, cut in enumerate(key) if one[pin] == cut])


class Makers:
    """KEYS that give pins, told by marks: which ones of them give all pins that are wanted."""

    def __init__(self, gives):
        self.gives = gives
        behind = [0]
        for marks in gives[::-1]:
            behind.append(behind[-1] | marks)
        self.behind = behind[::-1]

    def least(self, at, left, many):
        """The least list of so many places, from this one on, that give the pins left; None if there is none.

        It must be known that fewer ones do not give these pins.
        """
        if left == 0:
            return []
        if many == 0:
            return None
        while left & ~self.behind[at] == 0:
            here = self.gives[at]
            if left & here != 0:
                rest = self.least(at + 1, left & ~here, many - 1)
                if rest is not None:
                    return [at, *rest]
            at += 1
        return None

"""KEYS in the order in which they open ROOMs: the fewest chains, the greatest quiet sets, the longest chain.

Of two alike KEYS, each of which opens the ROOM of the other one, the one that stands behind counts as above. So the
order is strict: what is above something that is above a KEY is above the KEY itself. KEYS are told by their places.
"""

from undermasters.basics import all_marked, marked
from undermasters.openings import opened_marks, opener_marks


def above_marks(common, keys):
    """For each of the KEYS the marks of those above it: those whose ROOMs it opens, of alike ones those behind it."""
    opened = opened_marks(common, keys)
    above = []
    for at, (marks, others) in enumerate(zip(opened, opener_marks(opened))):
        alike_ahead = marks & others & all_marked(at)
        above.append(marks & ~alike_ahead & ~(1 << at))
    return above


def fewest_chains(above):
    """As few ascending chains as can be in which each place is just once."""
    links = Links(above)
    for place in range(len(above)):
        links.add_link_from(place)
    return [links.chain_from(place) for place in range(len(above)) if place not in links.lower_of]


class Links:
    """Links between two neighbours of a chain, for as many places as can be; no two of them begin or end alike."""

    def __init__(self, above):
        self.above = above
        self.upper_of = {}
        self.lower_of = {}

    def add_link_from(self, place):
        """Puts in a link from this place, moving others, if that can be."""
        reached, seen = {}, 0
        waiting = [place]
        while waiting:
            lower = waiting.pop()
            fresh = marked(self.above[lower] & ~seen)
            seen = seen | self.above[lower]
            for upper in fresh:
                reached[upper] = lower
                if upper not in self.lower_of:
                    self.move_links(reached, upper)
                    return
                waiting.append(self.lower_of[upper])

    def move_links(self, reached, upper):
        """Links each place on the way to its upper one anew, from the last one, upper, back to the first one."""
        while upper is not None:
            lower = reached[upper]
            freed = self.upper_of.get(lower)
            self.upper_of[lower] = upper
            self.lower_of[upper] = lower
            upper = freed

    def chain_from(self, place):
        """The chain that begins at this place."""
        chain = [place]
        while chain[-1] in self.upper_of:
            chain.append(self.upper_of[chain[-1]])
        return chain


def one_of_each(chains, above):
    """One place of each ascending chain, none above another one, each as far up as can be; None if there are none."""
    # No choice has a place further up than the tops. So what is above a top is in no choice: tops that are fall.
    tops = [len(chain) - 1 for chain in chains]
    falling = True
    while falling and min(tops, default=0) >= 0:
        raised = 0
        for chain, top in zip(chains, tops):
            raised = raised | above[chain[top]]
        lower = [highest_below(chain, top, raised) for chain, top in zip(chains, tops)]
        falling = lower != tops
        tops = lower
    return None if falling else [chain[top] for chain, top in zip(chains, tops)]


def highest_below(chain, top, raised):
    """Where, from top down, the first place of the chain stands that is not marked as raised; -1 if nowhere."""
    while top >= 0 and (raised >> chain[top]) & 1 == 1:
        top -= 1
    return top


def without_place(chains, place):
    """The chains without this place."""
    return [[each for each in chain if each != place] for chain in chains]


def least_left_out(chains, above):
    """The least set of as few places as can be without which none is above another one."""
    left_out = []
    for place in range(len(above)):
        # as long as one of each chain is left to choose, no more than can be are left out
        fewer = without_place(chains, place)
        if one_of_each(fewer, above) is not None:
            chains = fewer
            left_out.append(place)
    return left_out


def layers(above):
    """As few lists of places as can be, none in them above another one; each one has one below it in the one ahead."""
    places = list(range(len(above)))
    found = []
    while places:
        raised = 0
        for place in places:
            raised = raised | above[place]
        found.append([place for place in places if (raised >> place) & 1 == 0])
        places = [place for place in places if (raised >> place) & 1 == 1]
    return found


def longest_chain(above):
    """An ascending chain of as many places as can be."""
    found = layers(above)
    chain = found[-1][:1]
    for layer in found[-2::-1]:
        lower = [place for place in layer if (above[place] >> chain[-1]) & 1 == 1]
        chain.append(lower[0])
    return chain[::-1]

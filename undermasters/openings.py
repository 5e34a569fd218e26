"""Which ones of several KEYS open the ROOM of which, told by marks."""

from undermasters.basics import all_marked, marked
from undermasters.cuts import common_cuts


def opened_marks(common, keys):
    """For each of the KEYS the marks of those whose ROOMs it opens, its own one among them."""
    lets = common_cuts(common)
    with_cuts = [marks_with_cuts(keys, pin) for pin in range(len(lets))]
    opened = []
    for key in keys:
        marks = all_marked(len(keys))
        for pin, cut in enumerate(key):
            if cut not in lets[pin]:
                marks = marks & with_cuts[pin][cut]
        opened.append(marks)
    return opened


def marks_with_cuts(keys, pin):
    """For each cut that some of the KEYS have at the pin the marks of those that have it."""
    marks_of = {}
    for at, key in enumerate(keys):
        marks_of[key[pin]] = marks_of.get(key[pin], 0) | (1 << at)
    return marks_of


def opener_marks(opened):
    """For each of several KEYS the marks of those that open its ROOM, by the marks of those whose ROOMs each opens."""
    openers = [0] * len(opened)
    for at, marks in enumerate(opened):
        for other in marked(marks):
            openers[other] |= 1 << at
    return openers

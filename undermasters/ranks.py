"""Products of sums that tell how many pins are free, the choices that they count, and sums of parts of 1."""

from math import gcd, lcm


def ends_of(sums):
    """For each place, and for the end, what stands before each x ** k in the product of a + b * x from there on.

    sums are the pairs (a, b); each row has as many numbers as the first one, with 0 behind those that it needs.
    """
    rows = [[1] + [0] * len(sums)]
    for one, other in sums[::-1]:
        last = rows[-1]
        rows.append([one * low + other * high for low, high in zip(last, [0, *last])])
    return rows[::-1]


def coefficients(sums):
    """The tuple of what stands before each x ** k in the product of a + b * x over the pairs (a, b)."""
    return tuple(ends_of(sums)[0])


def places_of_greatest(numbers):
    """The set of the places at which the greatest one of the numbers stands."""
    greatest = max(numbers)
    return tuple([place for place, number in enumerate(numbers) if number == greatest])


class Picks:
    """At each pin one of so many free picks is taken, or the fixed one, which has some of them ahead of it.

    A pick is told by its number among the free ones, or by None. Those with as many free picks are numbered from 0,
    pins ahead counting more.
    """

    def __init__(self, frees, aheads):
        self.aheads = aheads
        self.ends = ends_of([(1, free) for free in frees])

    def many_with(self, free):
        """How many there are with so many free picks."""
        return self.ends[0][free]

    def nth(self, free, number):
        """The picks with this number; there must be such ones."""
        picks = []
        for ahead, ends in zip(self.aheads, self.ends[1:]):
            fixed = ends[free]
            each = ends[free - 1] if free > 0 else 0
            if ahead * each <= number < ahead * each + fixed:
                picks.append(None)
                number -= ahead * each
            else:
                if number >= ahead * each:
                    number -= fixed
                place, number = divmod(number, each)
                picks.append(place)
                free -= 1
        return picks

    def number_of(self, picks):
        """The number of these picks among those with as many free ones."""
        free = len([place for place in picks if place is not None])
        number = 0
        for place, ahead, ends in zip(picks, self.aheads, self.ends[1:]):
            fixed = ends[free]
            each = ends[free - 1] if free > 0 else 0
            if place is None:
                number += ahead * each
            else:
                number += place * each + (fixed if place >= ahead else 0)
                free -= 1
        return number


def fraction(top, bottom):
    """The FRACTION top / bottom, bottom from 1."""
    shared = gcd(top, bottom)
    return (top // shared, bottom // shared)


def sum_of_parts(counts, sizes):
    """The FRACTION that is the sum of each count divided by its size; a size can be 0 where the count is 0."""
    pairs = [(count, size) for count, size in zip(counts, sizes) if count > 0]
    bottom = 1
    for _, size in pairs:
        bottom = lcm(bottom, size)
    return fraction(sum([count * (bottom // size) for count, size in pairs]), bottom)

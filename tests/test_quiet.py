"""Point 8: quiet OWN KEYS and their share, held against plain listings, and great ones."""

import unittest
from fractions import Fraction
from random import Random

from tests.support import HOUSES, are_quiet, greatest_quiet, has_list, how_many_free, keys_of, lets, row, subsets
from undermasters import most, quiet
from undermasters.errors import NotQuiet

TWELVE = (20,) * 12
FORTY = (10 ** 6,) * 40


def sizes_of(depths, common):
    """For each RANK how many different ROWs there are."""
    rows = {row(common, key) for key in keys_of(depths)}
    return [sum(len(each) - each.count(None) == free for each in rows) for free in range(len(depths) + 1)]


def pair_of(fraction):
    return (fraction.numerator, fraction.denominator)


def pairs_that_clash(common, own):
    return [(one, other) for one in own for other in own if one != other and lets(common, one, other)]


def drawn_keys(draw, pins, depth, many):
    keys = set()
    while len(keys) < many:
        keys.add(tuple(draw.randrange(depth) for _ in range(pins)))
    return tuple(sorted(keys))


class Small(unittest.TestCase):

    def houses_with_own(self, most_keys):
        """All sets of at most so many OWN KEYS in small houses, quiet or not."""
        for depths, common in HOUSES:
            for own in subsets(keys_of(depths), 0, most_keys):
                yield depths, common, own

    def test_clashes(self):
        for depths, common, own in self.houses_with_own(3):
            pairs = pairs_that_clash(common, own)
            self.assertEqual(quiet.clashes(depths, common, own), pairs)
            self.assertIs(quiet.is_quiet(depths, common, own), not pairs)

    def test_share_and_most_more(self):
        for depths, common in HOUSES:
            sizes = sizes_of(depths, common)
            for own in subsets(keys_of(depths), 0, 3):
                ranks = [how_many_free(common, key) for key in own]
                share = sum([Fraction(1, sizes[free]) for free in ranks], Fraction(0))
                self.assertEqual(quiet.share(depths, common, own), pair_of(share))
                self.assertEqual(quiet.ranks_of(depths, common, own), tuple(map(ranks.count, range(len(sizes)))))
                if are_quiet(common, own):
                    # the guarantee
                    self.assertLessEqual(share, 1)
                    self.assertEqual(quiet.most_more(depths, common, own), (1 - share) * max(sizes) // 1)
                else:
                    with self.assertRaises(NotQuiet) as caught:
                        quiet.most_more(depths, common, own)
                    one, other = pairs_that_clash(common, own)[0]
                    self.assertEqual(vars(caught.exception), {"one": one, "other": other})

    def test_greatest(self):
        for depths, common in HOUSES:
            keys = keys_of(depths)
            if len(keys) <= 9:
                greatest = greatest_quiet(common, keys)
                for own in subsets(keys, 0, len(keys)):
                    self.assertIs(quiet.is_greatest(depths, common, own), own in greatest)
            for free in range(len(depths) + 1):
                own = most.rank_rooms(depths, common, free)
                self.assertIs(quiet.is_greatest(depths, common, own), free in most.best_ranks(depths, common))

    def test_as_many_as_the_greatest_but_not_quiet(self):
        self.assertIs(quiet.is_greatest((3, 3), ((0, 0),), ((0, 1), (0, 2), (1, 0), (1, 1))), False)
        self.assertIs(quiet.is_greatest((3, 3), ((0, 0),), ((0, 1), (0, 2), (1, 0), (1, 1), (2, 0))), False)

    def test_full(self):
        for depths, common, own in self.houses_with_own(3):
            further = [key for key in keys_of(depths) if key not in own and are_quiet(common, (*own, key))]
            full = are_quiet(common, own) and not further
            self.assertIs(quiet.is_full(depths, common, own), full, (depths, common, own))

    def test_not_quiet_and_nothing_further(self):
        # no KEY opens none of these ROOMs, but they are not quiet
        self.assertIs(quiet.is_full((2, 2), ((0, 0),), ((0, 1), (1, 1))), False)
        self.assertIs(quiet.is_full((2, 2), ((0, 0), (1, 1)), ((0, 0), (0, 1))), False)
        self.assertIs(quiet.is_full((2, 2), ((0, 0), (1, 1)), ((0, 1),)), True)

    def test_least_taken_out(self):
        for depths, common, own in self.houses_with_own(4):
            self.hold_against_listing(depths, common, own)

    def hold_against_listing(self, depths, common, own):
        many = len(own) - len(greatest_quiet(common, own)[0])
        expected = min(some for some in subsets(own, many, many)
                       if are_quiet(common, [key for key in own if key not in some]))
        self.assertEqual(quiet.least_taken_out(depths, common, own), expected, (common, own))

    def test_least_taken_out_of_twelve(self):
        draw = Random(12)
        for depths, common in (((2, 2, 2, 2), ((0, 0, 0, 0),)), ((3, 3, 3), ((0, 1, 2), (1, 1, 2))),
                               ((2, 2, 3, 2, 2), ((0, 0, 1, 0, 0), (0, 1, 1, 0, 0)))):
            for _ in range(12):
                self.hold_against_listing(depths, common, tuple(sorted(draw.sample(keys_of(depths), 12))))

    def test_all_alike(self):
        own = tuple(keys_of((3, 4)))
        common = tuple((at % 3, at) for at in range(4))
        self.assertEqual(quiet.least_taken_out((3, 4), tuple(sorted(common)), own), own[:-1])
        self.assertEqual(len(quiet.clashes((3, 4), tuple(sorted(common)), own)), 12 * 11)


class Shares(unittest.TestCase):

    def test_share_of_ranks(self):
        for depths, common in HOUSES:
            sizes = sizes_of(depths, common)
            for step in (1, 2, 5, 10 ** 40):
                counts = tuple(step * free + 1 if size else 0 for free, size in enumerate(sizes))
                share = sum(Fraction(count, size) for count, size in zip(counts, sizes) if size)
                self.assertEqual(quiet.share_of_ranks(depths, common, counts), pair_of(share))
                self.assertIs(quiet.can_be_by_share(depths, common, counts), share <= 1)

    def test_at_most_one(self):
        depths, common = (3, 3), ((0, 0),)
        self.assertEqual(quiet.share_of_ranks(depths, common, (0, 0, 4)), (1, 1))
        self.assertIs(quiet.can_be_by_share(depths, common, (0, 0, 4)), True)
        self.assertIs(quiet.can_be_by_share(depths, common, (0, 0, 5)), False)
        self.assertEqual(quiet.share_of_ranks(depths, common, (0, 0, 0)), (0, 1))
        self.assertIs(quiet.can_be_by_share(depths, common, (0, 0, 0)), True)

    def test_a_rank_without_rows(self):
        depths, common = (2, 5), ((0, 0), (1, 4))
        self.assertEqual(quiet.share_of_ranks(depths, common, (0, 2, 0)), (2, 3))
        self.assertIs(quiet.can_be_by_share(depths, common, (0, 3, 0)), True)
        self.assertIs(quiet.can_be_by_share(depths, common, (0, 4, 0)), False)

    def test_forty_pins(self):
        draw = Random(8)
        for depths in (FORTY, tuple(draw.randint(2, 10 ** 6) for _ in range(40))):
            common = tuple(sorted({tuple(draw.randrange(depth) for depth in depths) for _ in range(6)}))
            sizes = most.rank_sizes(depths, common)
            for counts in (sizes, tuple(min(size, 10 ** 40) for size in sizes),
                           tuple(draw.randrange(min(10 ** 40, size) + 1) // 41 for size in sizes)):
                share = sum([Fraction(count, size) for count, size in zip(counts, sizes) if size], Fraction(0))
                self.assertEqual(quiet.share_of_ranks(depths, common, counts), pair_of(share))
                self.assertIs(quiet.can_be_by_share(depths, common, counts), share <= 1)
            best = max(range(41), key=lambda free: sizes[free])
            whole = tuple(size if free == best else 0 for free, size in enumerate(sizes))
            self.assertEqual(quiet.share_of_ranks(depths, common, whole), (1, 1))
            over = tuple(count + (free == 20) for free, count in enumerate(whole))
            self.assertIs(quiet.can_be_by_share(depths, common, whole), True)
            self.assertIs(quiet.can_be_by_share(depths, common, over), False)


class Great(unittest.TestCase):

    def test_forty_own_keys(self):
        draw = Random(40)
        for depth, wide in ((20, 20), (20, 3), (20, 2)):
            common = drawn_keys(draw, 12, max(2, wide // 3), 6 if wide > 3 else 1)
            own = drawn_keys(draw, 12, wide, 40)
            depths = (depth,) * 12
            pairs = pairs_that_clash(common, own)
            self.assertEqual(quiet.clashes(depths, common, own), pairs)
            sizes = most.rank_sizes(depths, common)
            share = sum(Fraction(1, sizes[how_many_free(common, key)]) for key in own)
            self.assertEqual(quiet.share(depths, common, own), pair_of(share))
            taken = quiet.least_taken_out(depths, common, own)
            self.assertIs(quiet.is_quiet(depths, common, own), not pairs)
            self.assertTrue(are_quiet(common, [key for key in own if key not in taken]))

    def test_most_more(self):
        common = ((0,) * 12,)
        own = tuple(sorted((1,) * at + (2,) * (12 - at) for at in range(12)))
        rooms = most.most_rooms(TWELVE, common)
        size = most.rank_sizes(TWELVE, common)[12]
        self.assertEqual(quiet.most_more(TWELVE, common, own), (size - 12) * rooms // size)
        self.assertEqual(quiet.most_more(TWELVE, common, ()), rooms)

    def test_a_whole_rank(self):
        depths, common = (2,) * 12, ((0,) * 12,)
        for free in (1, 2, 4, 8, 12):
            own = most.rank_rooms(depths, common, free)
            self.assertEqual(quiet.share(depths, common, own), (1, 1))
            self.assertEqual(quiet.most_more(depths, common, own), 0)
            self.assertIs(quiet.is_full(depths, common, own), True)
            self.assertIs(quiet.is_greatest(depths, common, own), False)
            self.assertEqual(quiet.least_taken_out(depths, common, own), ())

    def test_told_as_lists(self):
        own = [[0, 1], [1, 1], [2, 1]]
        found = quiet.clashes([3, 3], [[0, 0]], own)
        self.assertEqual(repr(found), "[((0, 1), (1, 1)), ((0, 1), (2, 1))]")
        for result in (quiet.least_taken_out([3, 3], [[0, 0]], own), quiet.share([3, 3], [[0, 0]], own),
                       quiet.ranks_of([3, 3], [[0, 0]], own), quiet.share_of_ranks([3, 3], [[0, 0]], [0, 2, 2])):
            self.assertIsInstance(result, tuple)
            self.assertFalse(has_list(result), result)
        with self.assertRaises(NotQuiet) as caught:
            quiet.most_more([3, 3], [[0, 0]], own)
        self.assertEqual(repr(vars(caught.exception)), "{'one': (0, 1), 'other': (1, 1)}")

    def test_clashes_are_the_callers_own(self):
        own = ((0, 1), (1, 1))
        found = quiet.clashes((3, 3), ((0, 0),), own)
        found.clear()
        self.assertEqual(quiet.clashes((3, 3), ((0, 0),), own), [((0, 1), (1, 1))])


if __name__ == "__main__":
    unittest.main()

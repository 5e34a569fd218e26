"""Point 12: worn DOORS, held against plain listings, and great ones there and back."""

import unittest
from fractions import Fraction
from itertools import product
from random import Random

from tests.support import HOUSES, NEVER, OUTSIDE, as_lists, has_list, keys_of, subsets
from undermasters import most, worn
from undermasters.errors import NoNumber

FORTY = (10 ** 6,) * 40


def worn_lets(common, wear, one, other):
    """Whether at each pin the cut of one is near enough to that of other or to a common one."""
    return all(any(abs(cut - each[pin]) <= wear[pin] for each in (other, *common)) for pin, cut in enumerate(one))


def free_pins_worn(common, wear, key):
    return [pin for pin, cut in enumerate(key) if all(abs(cut - each[pin]) > wear[pin] for each in common)]


def quiet_worn(common, wear, own):
    return not any(one != other and worn_lets(common, wear, one, other) for one in own for other in own)


def size_at(depth, cuts, wear):
    """The size of a pin with these common cuts, by going through all its cuts."""
    far = [all(abs(cut - each) > wear for each in cuts) for cut in range(depth)]
    lengths = [len(some) for some in "".join("x" if each else " " for each in far).split()]
    return sum(-(-length // (wear + 1)) for length in lengths)


def expected_sizes(depths, common, wear):
    return tuple(size_at(depth, {key[pin] for key in common}, wear[pin]) for pin, depth in enumerate(depths))


def products_by_rank(numbers):
    """What stands before each x ** r in the product of 1 + number * x."""
    row = [1]
    for number in numbers:
        row = [low + number * high for low, high in zip([*row, 0], [0, *row])]
    return tuple(row)


def wears(depths):
    """Some tuples of numbers: 0, small ones, great ones, and so great ones that no cut is free."""
    pins = len(depths)
    return [(0,) * pins, (1,) * pins, (2,) * pins, (10 ** 40,) * pins, tuple(range(pins)), (0,) * (pins - 1) + (1,),
            (10 ** 40,) + (0,) * (pins - 1)]


# Besides the small houses longer pins, which have stretches of several cuts.
LONG = (
    ((9,), ((4,),)), ((12,), ((0,), (7,))), ((9, 4), ((4, 0),)), ((6, 5), ((0, 4), (3, 2))), ((5, 7), ((2, 0), (2, 6))),
    ((4, 3, 3), ((1, 0, 2),)),
)


class IsWorn(unittest.TestCase):

    def test_against_listing(self):
        for length in range(4):
            for thing in product((-1, 0, 1, 10 ** 41), repeat=length):
                self.assertIs(worn.is_worn((9, 9), thing), length == 2 and min(thing) >= 0)
                self.assertIs(worn.is_worn([9, 9, 9], thing), length == 3 and min(thing) >= 0)

    def test_each_kind(self):
        for thing in (*NEVER, ()):
            self.assertIs(worn.is_worn((9, 9, 9), thing), False, thing)
            good = isinstance(thing, int) and not isinstance(thing, bool) and thing >= 0
            self.assertIs(worn.is_worn((9, 9), (0, thing)), good, thing)
            self.assertIs(worn.is_worn((9, 9), (thing, 0)), good, thing)

    def test_lists_and_bools(self):
        for thing in ([0, 0], [(0, 0)], ((0, 0),), (0, True), (False, 0), (0, "0"), (0, None), (0, (0,)), "00"):
            self.assertIs(worn.is_worn((9, 9), thing), False)
        self.assertIs(worn.is_worn(FORTY, (10 ** 60,) * 40), True)
        self.assertIs(worn.is_worn(FORTY, (10 ** 60,) * 41), False)


class Small(unittest.TestCase):

    def cases(self):
        return [(depths, common, wear) for depths, common in (*HOUSES, *LONG) for wear in wears(depths)]

    def test_opens_worn(self):
        for depths, common, wear in self.cases():
            keys = keys_of(depths)[::3]
            for one in keys:
                self.assertEqual(worn.worn_rank(common, wear, one), len(free_pins_worn(common, wear, one)))
                for other in keys:
                    bars = [pin for pin in range(len(depths))
                            if all(abs(one[pin] - each[pin]) > wear[pin] for each in (other, *common))]
                    self.assertIs(worn.opens_worn(common, wear, one, other), not bars)
                    self.assertEqual(worn.worn_bar(common, wear, one, other), bars[0] if bars else None)

    def test_sizes(self):
        for depths, common, wear in self.cases():
            sizes = expected_sizes(depths, common, wear)
            by_rank = products_by_rank(sizes)
            self.assertEqual(worn.sizes(depths, common, wear), sizes)
            self.assertEqual(worn.worn_sizes(depths, common, wear), by_rank)
            self.assertEqual(worn.most_worn(depths, common, wear), max(by_rank))
            self.assertEqual(worn.worn_ranks(depths, common, wear),
                             tuple(free for free, many in enumerate(by_rank) if many == max(by_rank)))

    def test_all_stretches_of_one_pin(self):
        for depth in range(2, 11):
            for cuts in subsets(range(depth), 1, 3):
                common = tuple((cut,) for cut in cuts)
                for wear in range(0, depth + 1):
                    self.assertEqual(worn.sizes((depth,), common, (wear,)), (size_at(depth, cuts, wear),))

    def test_without_wear(self):
        for depths, common in HOUSES:
            self.assertEqual(worn.worn_sizes(depths, common, (0,) * len(depths)), most.rank_sizes(depths, common))

    def test_nth_worn(self):
        for depths, common, wear in self.cases():
            for free, many in enumerate(products_by_rank(expected_sizes(depths, common, wear))):
                listed = [worn.nth_worn(depths, common, wear, free, number) for number in range(many)]
                self.assertEqual(listed, sorted(set(listed)))
                self.assertEqual([key for key in listed if key not in keys_of(depths)], [])
                self.assertEqual([key for key in listed if len(free_pins_worn(common, wear, key)) != free], [])
                self.assertTrue(quiet_worn(common, wear, listed))
                for number in (*OUTSIDE, many, many + 1):
                    with self.assertRaises(NoNumber) as caught:
                        worn.nth_worn(depths, common, wear, free, number)
                    self.assertEqual(vars(caught.exception), {"number": number})
                for key in keys_of(depths):
                    if len(free_pins_worn(common, wear, key)) == free:
                        number = listed.index(key) if key in listed else None
                        self.assertEqual(worn.number_worn(depths, common, wear, key), number)

    def test_guarantee(self):
        for depths, common, wear in self.cases():
            keys = keys_of(depths)
            if len(keys) <= 9:
                quiet = [own for own in subsets(keys, 0, len(keys)) if quiet_worn(common, wear, own)]
                by_rank = products_by_rank(expected_sizes(depths, common, wear))
                self.assertEqual(max(len(own) for own in quiet), max(by_rank))
                self.assertEqual(max(len(own) for own in quiet), worn.most_worn(depths, common, wear))
                for own in quiet:
                    top, bottom = worn.worn_share(depths, common, wear, own)
                    self.assertLessEqual(top, bottom)

    def test_clashes_and_share(self):
        for depths, common, wear in self.cases():
            by_rank = products_by_rank(expected_sizes(depths, common, wear))
            for own in subsets(keys_of(depths)[::2], 0, 2):
                pairs = tuple((one, other) for one in own for other in own
                              if one != other and worn_lets(common, wear, one, other))
                self.assertEqual(worn.worn_clashes(common, wear, own), pairs)
                self.assertIs(worn.is_worn_quiet(common, wear, own), not pairs)
                share = sum([Fraction(1, by_rank[len(free_pins_worn(common, wear, key))]) for key in own], Fraction(0))
                self.assertEqual(worn.worn_share(depths, common, wear, own), (share.numerator, share.denominator))
                if not pairs:
                    rest = (1 - share) / Fraction(1, max(by_rank)) // 1
                    self.assertEqual(worn.worn_rest(depths, common, wear, own), rest)

    def test_wears_to(self):
        for depths, common in (*HOUSES, *LONG):
            for own in subsets(keys_of(depths)[::2], 0, 3):
                quiet = [wear for wear in range(14) if quiet_worn(common, (wear,) * len(depths), own)]
                # what is quiet with a number is quiet with each lesser one
                self.assertEqual(quiet, list(range(len(quiet))))
                self.assertEqual(worn.wears_to(common, own), None if len(own) < 2 else len(quiet) - 1)

    def test_wears_to_edges(self):
        self.assertIsNone(worn.wears_to(((4, 4),), ()))
        self.assertIsNone(worn.wears_to(((4, 4),), ((4, 4),)))
        self.assertEqual(worn.wears_to(((4, 4),), ((4, 0), (4, 4))), -1)
        self.assertEqual(worn.wears_to(((0, 0), (1, 1)), ((0, 5), (1, 5))), -1)
        self.assertEqual(worn.wears_to(((0,),), ((1,), (2,))), 0)
        self.assertEqual(worn.wears_to(((500000,),), ((0,), (999999,))), 499998)

    def test_no_free_cut(self):
        depths, common = (9, 9), ((4, 4),)
        for wear in ((4, 4), (10 ** 40, 5)):
            self.assertEqual((worn.sizes(depths, common, wear), worn.worn_sizes(depths, common, wear)), ((0, 0), (1, 0, 0)))
            self.assertEqual((worn.most_worn(depths, common, wear), worn.worn_ranks(depths, common, wear)), (1, (0,)))
            self.assertEqual(worn.nth_worn(depths, common, wear, 0, 0), (4, 4))
            self.assertEqual(worn.number_worn(depths, common, wear, (4, 4)), 0)
            self.assertIsNone(worn.number_worn(depths, common, wear, (4, 3)))
            self.assertEqual(worn.worn_rest(depths, common, wear, ()), 1)
            self.assertEqual(worn.worn_rest(depths, common, wear, ((0, 0),)), 0)
            with self.assertRaises(NoNumber):
                worn.nth_worn(depths, common, wear, 1, 0)


class Great(unittest.TestCase):

    def drawn(self, draw, depths, near):
        common = tuple(sorted({tuple(draw.randrange(depth) for depth in depths) for _ in range(6)}))
        return common, tuple(draw.randrange(near) for _ in depths)

    def test_forty_pins_there_and_back(self):
        draw = Random(12)
        for depths, near in ((FORTY, 10), (FORTY, 10 ** 5), (FORTY, 1), (FORTY, 10 ** 6), ((2,) * 40, 2),
                             (tuple(draw.randint(2, 10 ** 6) for _ in range(40)), 1000)):
            common, wear = self.drawn(draw, depths, near)
            by_rank = products_by_rank(worn.sizes(depths, common, wear))
            self.assertEqual(worn.worn_sizes(depths, common, wear), by_rank)
            for free, many in enumerate(by_rank):
                for number in (0, 1, many // 3, 10 ** 40, many - 2, many - 1):
                    if 0 <= number < many:
                        key = worn.nth_worn(depths, common, wear, free, number)
                        self.assertTrue(all(0 <= cut < depth for cut, depth in zip(key, depths)))
                        self.assertEqual(len(free_pins_worn(common, wear, key)), free)
                        self.assertEqual(worn.worn_rank(common, wear, key), free)
                        self.assertEqual(worn.number_worn(depths, common, wear, key), number)
                for number in (-1, -(10 ** 40), many, many + 10 ** 40):
                    with self.assertRaises(NoNumber) as caught:
                        worn.nth_worn(depths, common, wear, free, number)
                    self.assertEqual(caught.exception.number, number)

    def test_neighbours_ascend_and_are_quiet(self):
        draw = Random(13)
        common, wear = self.drawn(draw, FORTY, 5000)
        for free in (1, 20, 40):
            many = worn.worn_sizes(FORTY, common, wear)[free]
            for number in (0, 9999, many // 2, many - 3):
                some = [worn.nth_worn(FORTY, common, wear, free, number + more) for more in range(3)]
                self.assertEqual(some, sorted(some))
                self.assertTrue(quiet_worn(common, wear, some))
                self.assertIs(worn.is_worn_quiet(common, wear, some), True)

    def test_sizes_of_long_pins(self):
        draw = Random(14)
        for _ in range(30):
            depth = draw.randint(2, 3000)
            cuts = {draw.randrange(depth) for _ in range(6)}
            wear = draw.choice((0, 1, 2, 7, 50, 400, 10 ** 40))
            common = tuple((cut,) for cut in sorted(cuts))
            self.assertEqual(worn.sizes((depth,), common, (wear,)), (size_at(depth, cuts, wear),))
        self.assertEqual(worn.sizes(FORTY, ((0,) * 40,), (9,) * 40), (99999,) * 40)
        self.assertEqual(worn.sizes(FORTY, ((0,) * 40,), (10 ** 40,) * 40), (0,) * 40)

    def test_forty_own_keys(self):
        draw = Random(15)
        for near in (1, 1000, 10 ** 5, 10 ** 6):
            common, wear = self.drawn(draw, FORTY, near)
            keys = set()
            while len(keys) < 40:
                keys.add(tuple((draw.choice(common)[pin] + draw.choice((0, 0, near, 5 * near))) % 10 ** 6
                               for pin in range(40)))
            own = tuple(sorted(keys))
            pairs = tuple((one, other) for one in own for other in own
                          if one != other and worn_lets(common, wear, one, other))
            self.assertEqual(worn.worn_clashes(common, wear, own), pairs)
            by_rank = products_by_rank(worn.sizes(FORTY, common, wear))
            share = sum(Fraction(1, by_rank[len(free_pins_worn(common, wear, key))]) for key in own)
            self.assertEqual(worn.worn_share(FORTY, common, wear, own), (share.numerator, share.denominator))
            reach = worn.wears_to(common, own)
            self.assertTrue(reach == -1 or quiet_worn(common, (reach,) * 40, own))
            self.assertFalse(quiet_worn(common, (reach + 1,) * 40, own))

    def test_told_as_lists(self):
        common, own = [[4, 4]], [[0, 4], [2, 4], [4, 0]]
        for result in (worn.worn_clashes(common, [2, 0], own), worn.sizes([9, 9], common, [1, 1]),
                       worn.worn_share([9, 9], common, [1, 1], own), worn.nth_worn([9, 9], common, [1, 1], 2, 3),
                       worn.worn_sizes([9, 9], common, [1, 1]), worn.worn_ranks([9, 9], common, [1, 1])):
            self.assertIsInstance(result, tuple)
            self.assertFalse(has_list(result), result)
        self.assertEqual(worn.wears_to(as_lists(common), own), 1)


if __name__ == "__main__":
    unittest.main()

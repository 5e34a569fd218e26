"""Point 14: what further COMMON KEYS cost and which KEYS are fit, held against plain listings."""

import unittest
from itertools import combinations, product
from random import Random

from tests.support import HOUSES, OUTSIDE, are_quiet, has_list, keys_of, lets, subsets
from tests.test_more import how_many_in_some, size
from undermasters import commons
from undermasters.errors import NoNumber
from undermasters.most import most_rooms

TWELVE = (20,) * 12


def with_key(common, key):
    """The COMMON KEYS with this one, too."""
    return tuple(sorted({*common, key}))


def free_at(depths, common):
    """For each pin the cuts that are not common there, ascending."""
    return [[cut for cut in range(depth) if all(key[pin] != cut for key in common)] for pin, depth in enumerate(depths)]


def least_pair(own, key):
    """The least pair of two of own of which one opens the ROOM of other under the KEY alone."""
    return min([(one, other) for one in own for other in own if one != other and lets((key,), one, other)], default=None)


def how_many_fit_by_parts(depths, own):
    """How many KEYS are fit, by what all sets of the KEYS that are not for some pair have in common."""
    boxes = [[set(range(depth)) if cut == there else {cut} for depth, cut, there in zip(depths, one, other)]
             for one in own for other in own if one != other]
    return size([range(depth) for depth in depths]) - how_many_in_some(boxes)


class Cost(unittest.TestCase):

    def test_against_most_rooms(self):
        for depths, common in HOUSES:
            for key in keys_of(depths):
                expected = most_rooms(depths, common) - most_rooms(depths, with_key(common, key))
                # the guarantee
                self.assertGreaterEqual(expected, 0)
                self.assertEqual(commons.cost_of(depths, common, key), expected)
                self.assertIs(commons.costs_nothing(depths, common, key), expected == 0)

    def test_a_common_key_again(self):
        self.assertEqual(commons.cost_of((4, 4), ((0, 0), (1, 2)), (1, 2)), 0)
        # all its cuts are common, though it is no COMMON KEY
        self.assertEqual(commons.cost_of((4, 4), ((0, 0), (1, 2)), (1, 0)), 0)
        self.assertIs(commons.costs_nothing((4, 4), ((0, 0), (1, 2)), (0, 2)), True)
        self.assertIs(commons.costs_nothing((4, 4), ((0, 0), (1, 2)), (0, 3)), False)
        # no room fewer, though a cut is new: there is one room with each of the two RANKs
        self.assertIs(commons.costs_nothing((2,), ((0,),), (1,)), True)

    def test_forty_pins(self):
        depths, common = (10 ** 6,) * 40, ((0,) * 40, (999999,) * 40)
        key = (0,) * 39 + (5,)
        # all 40 pins have the same number of free cuts but the last one
        self.assertEqual(commons.cost_of(depths, common, key), 999998 ** 40 - 999998 ** 39 * 999997)
        self.assertEqual(commons.cost_of(depths, common, (7,) * 40), 999998 ** 40 - 999997 ** 40)
        self.assertIs(commons.costs_nothing(depths, common, (0, 999999) * 20), True)
        self.assertIs(commons.costs_nothing(depths, common, key), False)

    def test_told_as_lists(self):
        self.assertEqual(commons.cost_of([4, 4, 4], [[0, 0, 0]], [1, 0, 0]), 6)
        self.assertIs(commons.costs_nothing([4, 4, 4], [[0, 0, 0]], [0, 0, 0]), True)


class Pins(unittest.TestCase):

    def test_with_new_at(self):
        for depths, common in HOUSES:
            free = free_at(depths, common)
            pins = [pin for pin, cuts in enumerate(free) if cuts]
            for some in subsets(pins, 0, len(pins)):
                expected = tuple(free[pin][0] if pin in some else min(key[pin] for key in common)
                                 for pin in range(len(depths)))
                self.assertEqual(commons.with_new_at(depths, common, some), expected)
                self.assertEqual(commons.with_new_at(list(depths), [list(key) for key in common], list(some)), expected)

    def test_the_least_cut_that_is_not_common(self):
        common = ((0, 3, 0), (1, 3, 2), (2, 5, 4))
        self.assertEqual(commons.with_new_at((6, 6, 6), common, (0, 1, 2)), (3, 0, 1))
        self.assertEqual(commons.with_new_at((6, 6, 6), common, ()), (0, 3, 0))
        self.assertEqual(commons.with_new_at((6, 6, 6), common, (2,)), (0, 3, 1))

    def listed(self, depths, common, many):
        """The pairs of the cost and of the set, for all sets of so many pins at which some cut is not common."""
        free = free_at(depths, common)
        pins = [pin for pin, cuts in enumerate(free) if cuts]
        return [(commons.cost_of(depths, common, commons.with_new_at(depths, common, some)), some)
                for some in combinations(pins, many)]

    def hold_against_all_sets(self, depths, common):
        for many in range(len(depths) + 2):
            pairs = self.listed(depths, common, many)
            if pairs:
                self.assertEqual(commons.best_pins(depths, common, many), min(pairs)[1], (depths, common, many))
                self.assertEqual(commons.least_cost(depths, common, many), min(pairs)[0], (depths, common, many))
            else:
                self.assertIsNone(commons.best_pins(depths, common, many))
                self.assertIsNone(commons.least_cost(depths, common, many))
        for many in (-1, -2, -(10 ** 40), len(depths) + 1, 10 ** 40):
            self.assertIsNone(commons.best_pins(depths, common, many))
            self.assertIsNone(commons.least_cost(depths, common, many))

    def test_small(self):
        for depths, common in HOUSES:
            self.hold_against_all_sets(depths, common)
        for pins in (1, 2, 3, 4):
            for depths in product((2, 3, 4, 6), repeat=pins):
                self.hold_against_all_sets(depths, ((0,) * pins,))

    def test_drawn(self):
        draw = Random(14)
        for _ in range(150):
            depths = tuple(draw.choice((2, 2, 3, 4, 20)) for _ in range(draw.randrange(4, 9)))
            keys = [tuple(draw.randrange(min(3, depth)) for depth in depths) for _ in range(draw.randrange(1, 4))]
            self.hold_against_all_sets(depths, tuple(sorted(set(keys))))

    def test_several_cost_as_few(self):
        # with RANK 1 the best, it does not matter where a cut becomes common
        self.assertEqual(commons.best_pins((2, 2), ((0, 0),), 1), (0,))
        self.assertEqual(commons.best_pins((4, 4, 4), ((0, 0, 0),), 2), (0, 1))
        self.assertEqual(commons.best_pins((9, 2, 9), ((0, 0, 0),), 1), (0,))
        self.assertEqual(commons.best_pins((2, 9, 9), ((0, 0, 0),), 1), (1,))
        self.assertEqual(commons.best_pins((2, 2, 2), ((0, 0, 0),), 2), (0, 1))
        # (1 + 0 x) (1 + 2 x) or (1 + 1 x) (1 + 1 x): what is left differs, the cost does not
        self.assertEqual(commons.best_pins((3, 2), ((0, 0),), 1), (0,))
        self.assertEqual(commons.best_pins((2, 3), ((0, 0),), 1), (0,))
        self.assertEqual(commons.best_pins((2, 3, 3), ((0, 0, 0),), 1), (1,))

    def test_pins_without_free_cuts(self):
        depths, common = (2, 3, 2), ((0, 0, 0), (1, 1, 0))
        self.assertEqual([commons.best_pins(depths, common, many) for many in range(4)], [(), (1,), (1, 2), None])
        self.assertEqual([commons.least_cost(depths, common, many) for many in range(4)], [0, 1, 1, None])
        full = ((0, 0), (1, 1))
        self.assertEqual([commons.best_pins((2, 2), full, many) for many in (0, 1)], [(), None])
        self.assertEqual([commons.least_cost((2, 2), full, many) for many in (0, 1)], [0, None])

    def test_twelve_pins(self):
        common = tuple(sorted({(at,) * 6 + (2 * at,) * 6 for at in range(6)}))
        for many in (1, 5, 6, 7, 12):
            found = commons.best_pins(TWELVE, common, many)
            cost = commons.cost_of(TWELVE, common, commons.with_new_at(TWELVE, common, found))
            self.assertEqual(cost, commons.least_cost(TWELVE, common, many))
            self.assertEqual(found, tuple(range(many)))
        depths = (2, 20, 3, 19, 4, 18, 5, 17, 6, 16, 7, 15)
        pairs = self.listed(depths, ((0,) * 12,), 6)
        self.assertEqual(commons.best_pins(depths, ((0,) * 12,), 6), min(pairs)[1])
        self.assertEqual(commons.least_cost(depths, ((0,) * 12,), 6), min(pairs)[0])


class Fit(unittest.TestCase):

    def hold_against_listing(self, depths, own):
        keys = keys_of(depths)
        listed = [key for key in keys if are_quiet((key,), own)]
        self.assertEqual(commons.how_many_fit(depths, own), len(listed), (depths, own))
        self.assertEqual([commons.nth_fit(depths, own, number) for number in range(len(listed))], listed)
        for key in keys:
            self.assertIs(commons.is_fit(own, key), key in listed)
            self.assertEqual(commons.unfit_pair(own, key), least_pair(own, key))
            number = listed.index(key) if key in listed else None
            self.assertEqual(commons.number_of_fit(depths, own, key), number)
            # the guarantee
            shown = all(any(cut not in (there, mean) for cut, there, mean in zip(one, other, key))
                        for one in own for other in own if one != other)
            self.assertIs(shown, key in listed)
        for number in (*OUTSIDE, len(listed), len(listed) + 1):
            with self.assertRaises(NoNumber) as caught:
                commons.nth_fit(depths, own, number)
            self.assertEqual(vars(caught.exception), {"number": number})

    def test_two_and_three_own_keys(self):
        for depths in ((4,), (2, 2), (3, 2), (3, 3), (2, 2, 2)):
            for own in subsets(keys_of(depths), 2, 3):
                self.hold_against_listing(depths, own)

    def test_up_to_six_own_keys(self):
        draw = Random(6)
        for depths in ((3, 3), (4, 3), (3, 3, 2), (2, 2, 2, 2), (3, 3, 3)):
            for many in (4, 5, 6):
                for _ in range(8):
                    self.hold_against_listing(depths, tuple(sorted(draw.sample(keys_of(depths), many))))

    def test_own_in_another_order(self):
        # none twice is all that is asked of them
        own = ((2, 0), (0, 1), (0, 0), (1, 1))
        for key in keys_of((3, 3)):
            self.assertEqual(commons.unfit_pair(own, key), least_pair(own, key))
            self.assertEqual(commons.is_fit(own, key), commons.is_fit(tuple(sorted(own)), key))
            self.assertEqual(commons.number_of_fit((3, 3), own, key),
                             commons.number_of_fit((3, 3), tuple(sorted(own)), key))

    def test_a_cut_that_the_depths_have_not(self):
        self.assertIs(commons.is_fit(((0, 0), (0, 1)), (5, 5)), True)
        self.assertEqual(commons.unfit_pair(((0, 0), (0, 1)), (5, 1)), ((0, 1), (0, 0)))

    def test_one_of_own_as_the_common_key(self):
        # it opens the ROOM of each other one
        own = ((0, 1), (1, 0), (2, 2))
        for key in own:
            self.assertEqual(commons.unfit_pair(own, key), (key, min(other for other in own if other != key)))

    def test_great(self):
        draw = Random(140)
        for pins in (8, 12):
            depths = (20,) * pins
            for wide in (2, 3, 20):
                keys = set()
                while len(keys) < 6:
                    keys.add(tuple(draw.randrange(wide) for _ in range(pins)))
                for many in (2, 3, 6):
                    own = tuple(sorted(keys))[:many]
                    self.there_and_back(depths, own)
                    if many < 4:
                        self.assertEqual(commons.how_many_fit(depths, own), how_many_fit_by_parts(depths, own))

    def there_and_back(self, depths, own):
        many = commons.how_many_fit(depths, own)
        for number in (0, 1, 12345678901, many // 3, many // 2, many - 1):
            if 0 <= number < many:
                key = commons.nth_fit(depths, own, number)
                self.assertIs(are_quiet((key,), own), True)
                self.assertIs(commons.is_fit(own, key), True)
                self.assertEqual(commons.number_of_fit(depths, own, key), number)
        for number in (-1, -(10 ** 40), many, 10 ** 40):
            with self.assertRaises(NoNumber) as caught:
                commons.nth_fit(depths, own, number)
            self.assertEqual(caught.exception.number, number)

    def test_number_is_how_many_fit_ones_are_less(self):
        # just the KEYS with a third cut at the last pin are fit
        own = ((3,) * 11 + (0,), (3,) * 11 + (1,))
        self.assertEqual(commons.how_many_fit(TWELVE, own), 20 ** 11 * 18)
        self.assertEqual(commons.nth_fit(TWELVE, own, 18 * 20 + 5), (0,) * 9 + (1, 0, 7))
        self.assertEqual(commons.number_of_fit(TWELVE, own, (0,) * 9 + (1, 0, 7)), 18 * 20 + 5)
        self.assertIsNone(commons.number_of_fit(TWELVE, own, (5,) * 11 + (1,)))

    def test_no_fit_key(self):
        own = tuple(sorted([(0, 0), (0, 1), (1, 0), (1, 1)]))
        self.assertEqual(commons.how_many_fit((2, 2), own), 0)
        with self.assertRaises(NoNumber):
            commons.nth_fit((2, 2), own, 0)

    def test_told_as_lists(self):
        own = [[0, 0], [0, 1]]
        self.assertEqual(commons.unfit_pair(own, [5, 0]), ((0, 0), (0, 1)))
        for result in (commons.unfit_pair(own, [5, 0]), commons.nth_fit([3, 3], own, 1),
                       commons.best_pins([3, 3], own, 1), commons.with_new_at([3, 3], own, [1])):
            self.assertIsInstance(result, tuple)
            self.assertFalse(has_list(result), result)
        self.assertEqual(own, [[0, 0], [0, 1]])


if __name__ == "__main__":
    unittest.main()

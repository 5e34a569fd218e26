"""Point 10: further KEYS, held against plain listings, and great ones there and back."""

import unittest
from itertools import combinations
from random import Random

from tests.support import HOUSES, OUTSIDE, are_quiet, has_list, how_many_free, keys_of, lets, room, row, subsets
from undermasters import more, most
from undermasters.errors import NoNumber

TWELVE = (20,) * 12


def further_to(depths, common, own):
    """All KEYS that are none of own and with which they are quiet, too."""
    return [key for key in keys_of(depths) if key not in own and are_quiet(common, (*own, key))]


def quiet_sets(depths, common, most_keys):
    """All quiet sets of at most so many KEYS."""
    return [own for own in subsets(keys_of(depths), 0, most_keys) if are_quiet(common, own)]


def drawn_house(draw, pins, depth, many):
    """Six COMMON KEYS and up to so many quiet OWN KEYS, some cuts of which are common and some are shared."""
    common = tuple(sorted({tuple(draw.randrange(depth // 3) for _ in range(pins)) for _ in range(6)}))
    own = []
    for _ in range(20 * many):
        key = tuple(draw.choice((draw.choice(common)[pin], depth - 1 - draw.randrange(3))) for pin in range(pins))
        if len(own) < many and key not in own and are_quiet(common, (*own, key)):
            own.append(key)
    return common, tuple(sorted(own))


def size(sets):
    many = 1
    for cuts in sets:
        many *= len(cuts)
    return many


def how_many_in_some(boxes):
    """How many KEYS are in at least one of the boxes, by what all sets of them have in common."""
    total = 0
    for many in range(1, len(boxes) + 1):
        for some in combinations(boxes, many):
            total -= (-1) ** many * size([set.intersection(*[box[pin] for box in some]) for pin in range(len(some[0]))])
    return total


def how_many_further_by_parts(depths, common, own, beginning=()):
    """How many further KEYS begin so.

    Who opens the ROOM of one of own, and has one of own open its ROOM, is alike to that one: otherwise one of own would
    open the ROOM of another one.
    """
    whole = [set(range(depth)) for depth in depths]
    begun = [{cut} for cut in beginning] + whole[len(beginning):]
    above = [[begun[pin] & cuts for pin, cuts in enumerate(room(common, key))] for key in own]
    below = [[begun[pin] & ({cut} if cut is not None else whole[pin]) for pin, cut in enumerate(row(common, key))]
             for key in own]
    alike = [[begun[pin] & ({cut} if cut is not None else {each[pin] for each in common})
              for pin, cut in enumerate(row(common, key))] for key in own]
    return size(begun) - how_many_in_some(above) - how_many_in_some(below) + sum(size(each) for each in alike)


def number_by_parts(depths, common, own, key):
    """How many further KEYS are less than this KEY."""
    return sum(how_many_further_by_parts(depths, common, own, (*key[:pin], cut))
               for pin in range(len(key)) for cut in range(key[pin]))


class Small(unittest.TestCase):

    def hold_against_listing(self, depths, common, own):
        listed = further_to(depths, common, own)
        self.assertEqual(more.how_many_further(depths, common, own), len(listed))
        ranks = [how_many_free(common, key) for key in listed]
        self.assertEqual(more.further_ranks(depths, common, own),
                         tuple(ranks.count(free) for free in range(len(depths) + 1)))
        self.assertEqual([more.nth_further(depths, common, own, number) for number in range(len(listed))], listed)
        for key in keys_of(depths):
            self.assertIs(more.is_further(depths, common, own, key), key in listed)
            number = listed.index(key) if key in listed else None
            self.assertEqual(more.number_of_further(depths, common, own, key), number)
        for number in (*OUTSIDE, len(listed), len(listed) + 1):
            with self.assertRaises(NoNumber) as caught:
                more.nth_further(depths, common, own, number)
            self.assertEqual(vars(caught.exception), {"number": number})

    def test_against_listing(self):
        for depths, common in HOUSES:
            for own in quiet_sets(depths, common, 3):
                self.hold_against_listing(depths, common, own)

    def test_whole_ranks(self):
        for depths, common in HOUSES:
            for free in range(len(depths) + 1):
                self.hold_against_listing(depths, common, most.rank_rooms(depths, common, free))

    def test_no_own_keys(self):
        for depths, common in HOUSES:
            self.assertEqual(more.how_many_further(depths, common, ()), len(keys_of(depths)))
            self.assertEqual(more.further_ranks(depths, common, ()),
                             tuple(most.how_many_of_rank(depths, common, free) for free in range(len(depths) + 1)))

    def test_own_with_common_cuts_at_all_pins(self):
        self.assertEqual(more.how_many_further((3, 3), ((0, 0), (1, 2)), ((0, 2),)), 0)
        self.assertEqual(more.who_bars((3, 3), ((0, 0), (1, 2)), ((0, 2),), (2, 1)), ((), ((0, 2),)))
        self.assertEqual(more.who_bars((3, 3), ((0, 0), (1, 2)), ((0, 2),), (1, 0)), (((0, 2),), ((0, 2),)))

    def test_who_bars(self):
        for depths, common in HOUSES:
            for own in quiet_sets(depths, common, 2):
                for key in keys_of(depths):
                    expected = (tuple(each for each in own if lets(common, key, each)),
                                tuple(each for each in own if lets(common, each, key)))
                    self.assertEqual(more.who_bars(depths, common, own, key), expected)

    def test_best_addition(self):
        for depths, common in HOUSES:
            for own in quiet_sets(depths, common, 2):
                listed = [(key, len(further_to(depths, common, (*own, key))))
                          for key in further_to(depths, common, own)]
                expected = min(listed, key=lambda pair: (-pair[1], pair[0]), default=None)
                self.assertEqual(more.best_addition(depths, common, own), expected)

    def test_best_addition_of_a_hundred(self):
        depths, common = (10, 10), ((4, 4), (5, 4))
        for own in ((), ((0, 1), (1, 0)), ((4, 0), (4, 1), (4, 2), (0, 4))):
            listed = [(key, len(further_to(depths, common, (*own, key)))) for key in further_to(depths, common, own)]
            expected = min(listed, key=lambda pair: (-pair[1], pair[0]))
            self.assertEqual(more.best_addition(depths, common, own), expected)

    def test_guarantee_of_rows(self):
        # alike own, other KEYS: the same numbers
        depths, common = (4, 3), ((0, 0), (1, 0))
        self.assertEqual(more.further_ranks(depths, common, ((0, 1), (2, 0))),
                         more.further_ranks(depths, common, ((1, 1), (2, 0))))
        self.assertEqual(more.nth_further(depths, common, ((0, 1), (2, 0)), 2),
                         more.nth_further(depths, common, ((1, 1), (2, 0)), 2))

    def test_told_as_lists(self):
        own = [[0, 1], [1, 0]]
        for result in (more.who_bars([3, 3], [[0, 0]], own, [0, 1]), more.best_addition([3, 3], [[0, 0]], own),
                       more.further_ranks([3, 3], [[0, 0]], own), more.nth_further([3, 3], [[0, 0]], own, 0)):
            self.assertIsInstance(result, tuple)
            self.assertFalse(has_list(result), result)


class Great(unittest.TestCase):

    def there_and_back(self, depths, common, own):
        many = more.how_many_further(depths, common, own)
        self.assertEqual(sum(more.further_ranks(depths, common, own)), many)
        for number in (0, 1, 9876543210, many // 2, many - 2, many - 1):
            if 0 <= number < many:
                key = more.nth_further(depths, common, own, number)
                self.assertIs(more.is_further(depths, common, own, key), True)
                self.assertIs(are_quiet(common, (*own, key)), True)
                self.assertEqual(more.number_of_further(depths, common, own, key), number)
        for number in (-1, -(10 ** 40), many, 10 ** 40):
            with self.assertRaises(NoNumber) as caught:
                more.nth_further(depths, common, own, number)
            self.assertEqual(caught.exception.number, number)
        return many

    def test_six_common_and_ten_own_keys(self):
        draw = Random(10)
        for _ in range(12):
            common, own = drawn_house(draw, 12, 20, 10)
            self.assertEqual((len(common), len(own)), (6, 10))
            many = self.there_and_back(TWELVE, common, own)
            self.assertEqual(many, how_many_further_by_parts(TWELVE, common, own))

    def test_number_by_parts(self):
        draw = Random(11)
        common, own = drawn_house(draw, 12, 20, 5)
        many = more.how_many_further(TWELVE, common, own)
        for number in (1, 55555555555, many // 3, many - 1):
            key = more.nth_further(TWELVE, common, own, number)
            self.assertEqual(number_by_parts(TWELVE, common, own, key), number)

    def test_own_keys_that_differ_a_little(self):
        # here very many sets of own are left over by the beginnings of KEYS
        common = ((0,) * 12,)
        own = tuple(sorted(tuple(2 if pin == at else 1 for pin in range(12)) for at in range(10)))
        for depths in ((3,) * 12, (4,) * 12, TWELVE):
            many = self.there_and_back(depths, common, own)
            self.assertEqual(many, how_many_further_by_parts(depths, common, own))

    def test_example_of_twelve_pins(self):
        wide, master, ones = (10,) * 12, ((0,) * 12,), ((1,) * 12,)
        self.assertEqual(self.there_and_back(wide, master, ones), 10 ** 12 - 2 ** 12)
        self.assertEqual(more.how_many_further(TWELVE, ((0,) * 12, (7,) * 12), ()), 20 ** 12)
        self.assertEqual(self.there_and_back(wide, master, ()), 10 ** 12)

    def test_a_great_rank(self):
        # each KEY of lesser RANK opens one of these ROOMs, and one of these KEYS opens each ROOM of greater RANK
        own = most.rank_rooms((2,) * 12, ((0,) * 12,), 4)
        self.assertEqual(len(own), 495)
        self.assertEqual(more.how_many_further((2,) * 12, ((0,) * 12,), own), 0)
        self.assertEqual(more.how_many_further((2,) * 12, ((0,) * 12,), own[1:]), 1)
        self.assertEqual(more.nth_further((2,) * 12, ((0,) * 12,), own[1:], 0), own[0])


if __name__ == "__main__":
    unittest.main()

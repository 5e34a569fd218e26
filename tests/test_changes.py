"""Point 16: KEYS changed, held against plain listings, and great ones by what their numbers tell."""

import unittest
from itertools import permutations
from random import Random

from tests.support import HOUSES, OUTSIDE, are_quiet, has_list, keys_of, lets, subsets
from tests.test_more import drawn_house, quiet_sets
from undermasters import changes
from undermasters.errors import NoKey
from undermasters.more import how_many_further, nth_further, number_of_further

TWELVE = (20,) * 12


def goes_with(common, own, key):
    """Whether the KEY is none of own and they are quiet with it, too."""
    return key not in own and are_quiet(common, (*own, key))


def how_far(one, other):
    """At how many pins two KEYS have different cuts."""
    return sum(1 for cut, there in zip(one, other) if cut != there)


def number_of(depths, key):
    number = 0
    for depth, cut in zip(depths, key):
        number = number * depth + cut
    return number


def without(own, key):
    return tuple(each for each in own if each != key)


class Small(unittest.TestCase):

    def test_next_key_and_room_more(self):
        for depths, common in HOUSES:
            keys = keys_of(depths)
            for own in quiet_sets(depths, common, 2 if len(keys) > 8 else 8):
                going = [goes_with(common, own, key) for key in keys]
                least = [None] * (len(keys) + 1)
                for number in range(len(keys) - 1, -1, -1):
                    least[number] = keys[number] if going[number] else least[number + 1]
                for number in range(len(keys) + 1):
                    self.assertEqual(changes.next_key(depths, common, own, number), least[number])
                for number in (*OUTSIDE, len(keys) + 1):
                    expected = least[0] if number < 0 else None
                    self.assertEqual(changes.next_key(depths, common, own, number), expected)
                self.assertEqual(changes.room_more(depths, common, own), least[0])

    def test_fresh_for_and_nearest_key(self):
        for depths, common in HOUSES:
            keys = keys_of(depths)
            for own in quiet_sets(depths, common, 3 if len(keys) > 8 else 8):
                for key in own:
                    listed = [each for each in keys if each != key and goes_with(common, without(own, key), each)]
                    self.assertEqual(changes.fresh_for(depths, common, own, key), min(listed, default=None))
                    nearest = min(listed, key=lambda each: (how_far(each, key), each), default=None)
                    self.assertEqual(changes.nearest_key(depths, common, own, key), nearest)

    def test_no_such_key(self):
        for depths, common in HOUSES:
            keys = keys_of(depths)
            for own in quiet_sets(depths, common, 1):
                for key in without(tuple(keys), *own) if own else keys:
                    for call in (changes.fresh_for, changes.nearest_key):
                        for told in (key, list(key)):
                            with self.assertRaises(NoKey) as caught:
                                call(depths, common, own, told)
                            self.assertEqual(vars(caught.exception), {"key": key})

    def test_none_that_goes(self):
        # all KEYS of RANK 1, and the two KEYS that there are
        self.assertIsNone(changes.room_more((2, 2), ((0, 0),), ((0, 1), (1, 0))))
        self.assertIsNone(changes.next_key((2, 2), ((0, 0),), ((0, 1), (1, 0)), -5))
        self.assertIsNone(changes.room_more((2,), ((0,),), ((1,),)))
        # just one ROOM can be under two COMMON KEYS with all cuts: any other KEY for it
        self.assertEqual(changes.fresh_for((2,), ((0,), (1,)), ((0,),), (0,)), (1,))
        # one of these can only be cut as it is
        own = ((0, 1, 1), (1, 0, 1), (1, 1, 0))
        for key in own:
            self.assertIsNone(changes.fresh_for((2, 2, 2), ((0, 0, 0),), own, key))
            self.assertIsNone(changes.nearest_key((2, 2, 2), ((0, 0, 0),), own, key))

    def test_the_key_itself_is_not_told(self):
        # alone, each other KEY goes: the least one, and the least one of those with one other cut
        self.assertEqual(changes.fresh_for((3, 3), ((0, 0),), ((0, 0),), (0, 0)), (0, 1))
        self.assertEqual(changes.nearest_key((3, 3), ((0, 0),), ((0, 0),), (0, 0)), (0, 1))
        self.assertEqual(changes.nearest_key((3, 3), ((0, 0),), ((2, 1),), (2, 1)), (0, 1))
        self.assertEqual(changes.nearest_key((3, 3), ((0, 0),), ((1, 0),), (1, 0)), (0, 0))

    def test_nearest_of_several(self):
        # no KEY with one other cut goes
        depths, common, own = (3, 3, 2), ((0, 0, 0),), ((0, 1, 1), (0, 2, 1), (1, 0, 1), (1, 1, 0), (2, 0, 1))
        self.assertIs(are_quiet(common, own), True)
        for key in own:
            listed = [each for each in keys_of(depths) if each != key and goes_with(common, without(own, key), each)]
            expected = min(listed, key=lambda each: (how_far(each, key), each), default=None)
            self.assertEqual(changes.nearest_key(depths, common, own, key), expected)

    def test_told_as_lists(self):
        own = [[0, 1], [1, 0]]
        for result in (changes.next_key([3, 3], [[0, 0]], own, 0), changes.room_more([3, 3], [[0, 0]], own),
                       changes.fresh_for([3, 3], [[0, 0]], own, [1, 0]), changes.recut(own, 0, [1, 0, 2]),
                       changes.nearest_key([3, 3], [[0, 0]], own, [1, 0]), changes.reordered(own, [1, 0]),
                       changes.with_pin(own, 0, 3)):
            self.assertIsInstance(result, tuple)
            self.assertFalse(has_list(result), result)
        self.assertEqual(own, [[0, 1], [1, 0]])


class Great(unittest.TestCase):

    def houses(self, seed, times):
        draw = Random(seed)
        for _ in range(times):
            common, own = drawn_house(draw, 12, 20, 8)
            self.assertEqual((len(common), len(own)), (6, 8))
            yield draw, common, own
        yield draw, ((0,) * 12,), tuple(sorted((1,) * at + (2,) + (1,) * (11 - at) for at in range(8)))

    def test_next_key(self):
        for draw, common, own in self.houses(16, 6):
            last = nth_further(TWELVE, common, own, how_many_further(TWELVE, common, own) - 1)
            numbers = [0, 1, 20 ** 11, 20 ** 12 - 1, number_of(TWELVE, last), number_of(TWELVE, last) + 1]
            for number in numbers + [number_of(TWELVE, key) for key in own] + [draw.randrange(20 ** 12) for _ in range(4)]:
                key = changes.next_key(TWELVE, common, own, number)
                if key is None:
                    self.assertGreater(number, number_of(TWELVE, last))
                    continue
                self.assertGreaterEqual(number_of(TWELVE, key), number)
                self.assertIs(goes_with(common, own, key), True)
                place = number_of_further(TWELVE, common, own, key)
                if place > 0:
                    # the further KEY ahead of it has a number that is too small
                    ahead = nth_further(TWELVE, common, own, place - 1)
                    self.assertLess(number_of(TWELVE, ahead), number)
            for number in (-1, -(10 ** 40)):
                first = changes.room_more(TWELVE, common, own)
                self.assertEqual(changes.next_key(TWELVE, common, own, number), first)
                self.assertEqual(first, nth_further(TWELVE, common, own, 0))
            for number in (20 ** 12, 10 ** 40):
                self.assertIsNone(changes.next_key(TWELVE, common, own, number))

    def test_fresh_for(self):
        for _, common, own in self.houses(17, 4):
            for key in own:
                others = without(own, key)
                found = [nth_further(TWELVE, common, others, number) for number in (0, 1)]
                expected = found[1] if found[0] == key else found[0]
                self.assertEqual(changes.fresh_for(TWELVE, common, own, key), expected)

    def test_nearest_key(self):
        for _, common, own in self.houses(18, 1):
            for key in own:
                others = without(own, key)
                found = changes.nearest_key(TWELVE, common, own, key)
                near = [(*key[:pin], cut, *key[pin + 1:]) for pin in range(12) for cut in range(20) if cut != key[pin]]
                near = [each for each in near if goes_with(common, others, each)]
                if near:
                    self.assertEqual(found, min(near))
                else:
                    self.assertIs(goes_with(common, others, found), True)
                    self.assertGreater(how_far(found, key), 1)

    def test_nearest_key_that_is_far(self):
        common, own = ((1, 0, 1, 1, 1, 1),), (
            (0, 0, 0, 0, 0, 1), (0, 1, 0, 0, 1, 1), (0, 1, 0, 1, 0, 1), (0, 1, 1, 0, 0, 0), (1, 0, 0, 0, 1, 0),
            (1, 0, 0, 1, 0, 0), (1, 1, 0, 0, 0, 1), (1, 1, 0, 1, 1, 0))
        self.assertEqual(changes.nearest_key((2,) * 6, common, own, (1, 1, 0, 0, 0, 1)), (0, 0, 0, 1, 1, 0))
        self.assertEqual(changes.nearest_key((2,) * 6, common, own, (0, 0, 0, 0, 0, 1)), (0, 0, 0, 1, 1, 0))
        # a pin with 18 depths more, where the cut is the COMMON KEY's: then another cut there does
        wide = changes.with_pin(own, 6, 0)
        self.assertEqual(changes.nearest_key((2,) * 6 + (20,), changes.with_pin(common, 6, 0), wide, wide[6]),
                         (1, 1, 0, 0, 0, 1, 1))

    def test_house_of_two_depths(self):
        # the DEPTHS are so few that the nearest KEY that goes may have many other cuts
        draw = Random(19)
        for _ in range(4):
            depths = (2,) * 8
            common, own = ((0,) * 8,), []
            for key in draw.sample(keys_of(depths), 256):
                if len(own) < 8 and goes_with(common, tuple(own), key):
                    own.append(key)
            own = tuple(sorted(own))
            for key in own:
                listed = [each for each in keys_of(depths) if each != key and goes_with(common, without(own, key), each)]
                expected = min(listed, key=lambda each: (how_far(each, key), each), default=None)
                self.assertEqual(changes.nearest_key(depths, common, own, key), expected)
                self.assertEqual(changes.fresh_for(depths, common, own, key), min(listed, default=None))


class Alike(unittest.TestCase):

    SOME = ((0, 2, 1), (1, 0, 0), (1, 2, 0), (2, 2, 1))

    def test_recut(self):
        for pin in range(3):
            for cuts in permutations(range(3)):
                expected = [[cuts[cut] if at == pin else cut for at, cut in enumerate(key)] for key in self.SOME]
                self.assertEqual(changes.recut(self.SOME, pin, cuts), tuple(sorted(tuple(key) for key in expected)))
        self.assertEqual(changes.recut(((0,), (2,)), 0, (2, 1, 0)), ((0,), (2,)))
        self.assertEqual(changes.recut(((0,),), 0, (7, 0, 1, 2, 3, 4, 5, 6)), ((7,),))

    def test_reordered(self):
        for pins in permutations(range(3)):
            expected = sorted(tuple(key[pins[at]] for at in range(3)) for key in self.SOME)
            self.assertEqual(changes.reordered(self.SOME, pins), tuple(expected))
        self.assertEqual(changes.reordered(((1, 2, 3, 4),), (3, 0, 1, 2)), ((4, 1, 2, 3),))
        self.assertEqual(changes.reordered(((5,),), (0,)), ((5,),))

    def test_with_pin(self):
        self.assertEqual(changes.with_pin(self.SOME, 0, 9), tuple((9, *key) for key in self.SOME))
        self.assertEqual(changes.with_pin(self.SOME, 3, 0), tuple((*key, 0) for key in self.SOME))
        self.assertEqual(changes.with_pin(self.SOME, 2, 5), tuple((*key[:2], 5, key[2]) for key in self.SOME))

    def test_there_and_back(self):
        for pin in (0, 1, 2):
            self.assertEqual(changes.recut(changes.recut(self.SOME, pin, (1, 2, 0)), pin, (2, 0, 1)), self.SOME)
        self.assertEqual(changes.reordered(changes.reordered(self.SOME, (1, 2, 0)), (2, 0, 1)), self.SOME)

    def test_who_opens_what_stays(self):
        for depths, common in HOUSES:
            pins = len(depths)
            for own in subsets(keys_of(depths), 1, 2):
                for pin in {0, pins - 1}:
                    # each cut becomes the next one, the last one becomes 0
                    cuts = tuple((cut + 1) % depths[pin] for cut in range(depths[pin]))
                    self.hold_alike(common, own, lambda keys: changes.recut(keys, pin, cuts))
                    self.hold_alike(common, own, lambda keys: changes.with_pin(keys, pin, 1))
                self.hold_alike(common, own, lambda keys: changes.with_pin(keys, pins, 0))
                self.hold_alike(common, own, lambda keys: changes.reordered(keys, tuple(range(pins))[::-1]))

    def hold_alike(self, common, own, change):
        masters, owners = change(common), change(own)
        self.assertEqual((len(masters), len(owners)), (len(common), len(own)))
        self.assertEqual(are_quiet(masters, owners), are_quiet(common, own))
        for one in own:
            for other in own:
                fresh, there = change((one,))[0], change((other,))[0]
                self.assertIn(fresh, owners)
                self.assertEqual(lets(masters, fresh, there), lets(common, one, other))


if __name__ == "__main__":
    unittest.main()

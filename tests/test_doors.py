"""Point 5: DOORs, held against plain listings, and great ones."""

import unittest
from itertools import combinations, product
from random import Random
from unittest.mock import patch

from tests.support import NEVER, OUTSIDE, can_open, doors_of, has_list, keys_of, subsets
from undermasters import doors
from undermasters.errors import NoNumber

SMALL = ((2,), (4,), (2, 3), (3, 2), (2, 2, 2))
TWELVE = (20,) * 12


def great_doors(many):
    """DOORs of 12 pins of 20 depths: the one at k lets at each pin all cuts but a few, others for each k."""
    return tuple(
        tuple(tuple(cut for cut in range(20) if (cut * 3 + pin * 5 + at * 7) % 11 > 2) for pin in range(12))
        for at in range(many)
    )


def cuts_of_all(some, pin):
    """The cuts that each one of the DOORs lets at the pin."""
    return [cut for cut in some[0][pin] if all(cut in door[pin] for door in some)]


def how_many_open_all(some):
    """How many KEYS open each one of the DOORs."""
    many = 1
    for pin in range(len(some[0])):
        many *= len(cuts_of_all(some, pin))
    return many


def how_many_by_parts(group):
    """How many KEYS open at least one of the DOORs, by what all sets of them have in common."""
    total = 0
    for many in range(1, len(group) + 1):
        for some in combinations(group, many):
            total += how_many_open_all(some) if many % 2 == 1 else -how_many_open_all(some)
    return total


def how_many_below(group, key):
    """How many KEYS less than this one open at least one of the DOORs."""
    total = 0
    for pin, cut in enumerate(key):
        # just the same cuts ahead of this pin, a lesser one there, any behind it
        group = [door for door in group if pin == 0 or key[pin - 1] in door[pin - 1]]
        lesser = [
            (tuple(each for each in door[pin] if each < cut), *door[pin + 1:])
            for door in group
        ]
        total += how_many_by_parts(lesser)
    return total


def pairs_of_doors():
    """For some small DEPTHS all pairs of DOORs."""
    return [(depths, pair) for depths in ((4,), (2, 3), (2, 2, 2)) for pair in product(doors_of(depths), repeat=2)]


class IsDoor(unittest.TestCase):

    def test_all_doors(self):
        for depths in SMALL:
            for door in doors_of(depths):
                self.assertIs(doors.is_door(depths, door), True)
                self.assertIs(doors.is_door([*depths], door), True)

    def test_cuts_of_one_pin(self):
        for length in range(4):
            for cuts in product(range(-1, 5), repeat=length):
                good = length > 0 and 0 <= cuts[0] and cuts[-1] < 3 and list(cuts) == sorted(set(cuts))
                self.assertIs(doors.is_door((3,), (cuts,)), good, cuts)
                self.assertIs(doors.is_door((2, 3), ((0, 1), cuts)), good, cuts)

    def test_wrong_things(self):
        # ((0,), (0,)) and the like are DOORs for two pins, not for three
        for thing in (*NEVER, (), ((0,), ()), ((), (0,)), ((0,), (0,))):
            self.assertIs(doors.is_door((3, 3, 3), thing), False, thing)

    def test_each_kind_at_one_pin(self):
        for thing in NEVER:
            self.assertIs(doors.is_door((3, 3), ((0,), thing)), False, thing)
            self.assertIs(doors.is_door((3, 3), (thing, (0,))), False, thing)

    def test_each_kind_among_the_cuts(self):
        for thing in NEVER:
            if thing not in (0, 1, 2) or isinstance(thing, bool):
                self.assertIs(doors.is_door((3,), ((thing,),)), False, thing)
                self.assertIs(doors.is_door((3,), ((0, thing),)), False, thing)

    def test_lists_and_lengths(self):
        for thing in ([(0,), (1,)], ([0], (1,)), ((0,), [1]), ((0,),), ((0,), (1,), (0,)), ((1, 0), (1,)), ((0, 0), (1,))):
            self.assertIs(doors.is_door((3, 3), thing), False, thing)

    def test_great(self):
        wide = tuple(range(20))
        self.assertIs(doors.is_door(TWELVE, (wide,) * 12), True)
        self.assertIs(doors.is_door(TWELVE, (wide,) * 11), False)
        self.assertIs(doors.is_door(TWELVE, (wide,) * 11 + ((20,),)), False)
        self.assertIs(doors.is_door(TWELVE, (wide,) * 11 + (wide[::-1],)), False)


class OneDoor(unittest.TestCase):

    def test_each_key(self):
        for depths in SMALL:
            for door in doors_of(depths):
                listed = [key for key in keys_of(depths) if can_open(door, key)]
                self.assertEqual(doors.how_many_open(door), len(listed))
                self.assertEqual([doors.nth_opener(door, number) for number in range(len(listed))], listed)
                for key in keys_of(depths):
                    bars = [pin for pin, cut in enumerate(key) if cut not in door[pin]]
                    self.assertIs(doors.opens(door, key), not bars)
                    self.assertEqual(doors.pin_that_bars(door, key), bars[0] if bars else None)
                    number = listed.index(key) if key in listed else None
                    self.assertEqual(doors.number_of_opener(door, key), number)

    def test_no_number(self):
        for depths in SMALL:
            for door in doors_of(depths):
                many = doors.how_many_open(door)
                for number in (*OUTSIDE, many, many + 1):
                    with self.assertRaises(NoNumber) as caught:
                        doors.nth_opener(door, number)
                    self.assertEqual(caught.exception.number, number)

    def test_great_there_and_back(self):
        wide = (tuple(range(20)),) * 12
        self.assertEqual(doors.how_many_open(wide), 20 ** 12)
        for door in (wide, *great_doors(12)):
            many = doors.how_many_open(door)
            for number in (0, 1, 12345678901, many // 3, many - 1):
                key = doors.nth_opener(door, number)
                self.assertIs(doors.opens(door, key), True)
                self.assertEqual(doors.number_of_opener(door, key), number)
                self.assertEqual(how_many_below([door], key), number)
            for number in (-1, -(10 ** 40), many, 10 ** 40):
                with self.assertRaises(NoNumber) as caught:
                    doors.nth_opener(door, number)
                self.assertEqual(caught.exception.number, number)


class DoorForKeys(unittest.TestCase):

    def test_guarantee(self):
        for depths in ((4,), (2, 3), (2, 2, 2)):
            for keys in subsets(keys_of(depths), 1, 3):
                door = doors.door_for(keys)
                opened = [each for each in doors_of(depths) if all(can_open(each, key) for key in keys)]
                fewest = min(doors.how_many_open(each) for each in opened)
                self.assertEqual([each for each in opened if doors.how_many_open(each) == fewest], [door])
                for key in keys_of(depths):
                    mixed = all(any(maker[pin] == cut for maker in keys) for pin, cut in enumerate(key))
                    self.assertIs(doors.opens(door, key), mixed)

    def test_cuts_are_ascending(self):
        self.assertEqual(doors.door_for(((0, 17), (1, 8), (2, 1), (3, 16))), ((0, 1, 2, 3), (1, 8, 16, 17)))

    def test_strays(self):
        for depths in SMALL:
            for keys in subsets(keys_of(depths), 1, 4):
                door = doors.door_for(keys)
                others = [key for key in keys_of(depths) if can_open(door, key) and key not in keys]
                self.assertEqual(doors.how_many_strays(keys), len(others))

    def test_great(self):
        keys = tuple((first,) + (39 - first,) * 11 for first in range(20, 40))
        self.assertEqual(doors.door_for(keys), (tuple(range(20, 40)),) + (tuple(range(20)),) * 11)
        self.assertEqual(doors.how_many_strays(keys), 20 ** 12 - 20)
        self.assertEqual(doors.how_many_strays(keys[:1]), 0)


class TwoDoors(unittest.TestCase):

    def test_both(self):
        for depths, (door, other) in pairs_of_doors():
            shared = [key for key in keys_of(depths) if can_open(door, key) and can_open(other, key)]
            result = doors.both(door, other)
            if shared:
                self.assertIs(doors.is_door(depths, result), True)
                self.assertEqual([key for key in keys_of(depths) if can_open(result, key)], shared)
            else:
                self.assertIsNone(result)

    def test_within(self):
        for depths, (door, other) in pairs_of_doors():
            inside = all(can_open(other, key) for key in keys_of(depths) if can_open(door, key))
            self.assertIs(doors.within(door, other), inside)

    def test_one_pin_apart(self):
        self.assertIsNone(doors.both(((0, 1), (0,), (2,)), ((0, 1), (0,), (1,))))
        self.assertIs(doors.within(((0, 1), (0,), (2,)), ((0, 1), (0,), (1,))), False)
        self.assertEqual(doors.both(((0, 1, 2), (3,)), ((1, 2, 5), (0, 3))), ((1, 2), (3,)))


class SeveralDoors(unittest.TestCase):

    def hold_against_listing(self, depths, group):
        opened = {key: sum(can_open(door, key) for door in group) for key in keys_of(depths)}
        some = [key for key in opened if opened[key] > 0]
        self.assertEqual(doors.how_many_some(group), len(some))
        self.assertEqual(doors.how_many_all(group), list(opened.values()).count(len(group)))
        for number in (*OUTSIDE, *range(len(group) + 2)):
            self.assertEqual(doors.how_many_just(depths, group, number), list(opened.values()).count(number))
        self.assertEqual([doors.nth_of_some(group, number) for number in range(len(some))], some)
        for number in (*OUTSIDE, len(some), len(some) + 1):
            with self.assertRaises(NoNumber) as caught:
                doors.nth_of_some(group, number)
            self.assertEqual(caught.exception.number, number)

    def test_one_and_two(self):
        for depths in SMALL:
            for door in doors_of(depths):
                self.hold_against_listing(depths, (door,))
        for depths, pair in pairs_of_doors():
            self.hold_against_listing(depths, pair)

    def test_three(self):
        for group in product(doors_of((2, 2)), repeat=3):
            self.hold_against_listing((2, 2), group)
        for group in product(doors_of((2, 3))[::3], repeat=3):
            self.hold_against_listing((2, 3), group)

    def test_eight(self):
        listed = doors_of((3, 3, 2))
        for step in (1, 5, 11, 17):
            for first in range(0, 140, 7):
                group = tuple(listed[(first + at * step) % len(listed)] for at in range(8))
                self.hold_against_listing((3, 3, 2), group)

    def test_alike_ones_count_each(self):
        door = ((0, 1), (1,))
        counts = [doors.how_many_just((2, 2), (door,) * 5, number) for number in range(7)]
        self.assertEqual(counts, [2, 0, 0, 0, 0, 2, 0])
        self.assertEqual((doors.how_many_some((door,) * 5), doors.how_many_all((door,) * 5)), (2, 2))

    def test_none_opens_all(self):
        group = (((0, 1), (0,)), ((0, 1), (1,)), ((0, 1), (0, 1)))
        self.assertEqual(doors.how_many_all(group), 0)
        self.assertEqual([doors.how_many_just((2, 2), group, number) for number in range(4)], [0, 0, 4, 0])

    def test_twelve_great_doors(self):
        group = great_doors(12)
        some = how_many_by_parts(group)
        self.assertEqual(doors.how_many_some(group), some)
        self.assertEqual(doors.how_many_all(group), how_many_open_all(group))
        counts = [doors.how_many_just(TWELVE, group, number) for number in range(-1, 14)]
        self.assertEqual((counts[0], counts[14], counts[1]), (0, 0, 20 ** 12 - some))
        self.assertEqual(sum(counts), 20 ** 12)
        weighed = sum(number * many for number, many in zip(range(-1, 14), counts))
        self.assertEqual(weighed, sum(how_many_open_all((door,)) for door in group))
        self.assertEqual(counts[13], how_many_open_all(group))
        for number in OUTSIDE:
            self.assertEqual(doors.how_many_just(TWELVE, group, number), 0)

    def test_twelve_doors_that_each_leave_out_one_cut(self):
        # here all sets of DOORs come up
        group = tuple((tuple(cut for cut in range(20) if cut != at),) * 12 for at in range(12))
        self.assertEqual(doors.how_many_some(group), how_many_by_parts(group))
        self.assertEqual(doors.how_many_all(group), 8 ** 12)
        counts = [doors.how_many_just(TWELVE, group, number) for number in range(13)]
        self.assertEqual((sum(counts), counts[12]), (20 ** 12, 8 ** 12))

    def test_eight_great_doors_there_and_back(self):
        for group in (great_doors(8), great_doors(8)[::-1], great_doors(1) * 8):
            many = doors.how_many_some(group)
            self.assertEqual(many, how_many_by_parts(group))
            for number in (0, 1, 98765432109, many // 2, many - 1):
                key = doors.nth_of_some(group, number)
                self.assertIs(any(can_open(door, key) for door in group), True)
                self.assertEqual(how_many_below(group, key), number)
            for number in (-1, -(10 ** 40), many, 10 ** 40):
                with self.assertRaises(NoNumber) as caught:
                    doors.nth_of_some(group, number)
                self.assertEqual(caught.exception.number, number)


class Makers(unittest.TestCase):

    def test_givers(self):
        for depths in SMALL:
            for keys in subsets(keys_of(depths), 0, 3):
                for key in keys_of(depths):
                    expected = tuple(tuple(one for one in keys if one[pin] == cut) for pin, cut in enumerate(key))
                    self.assertEqual(doors.givers(keys, key), expected)

    def test_fewest_makers(self):
        for depths in ((4,), (2, 3), (3, 3), (2, 2, 2)):
            for keys in subsets(keys_of(depths), 1, 4):
                choices = subsets(keys, 1, len(keys))
                for key in keys_of(depths):
                    making = [some for some in choices if can_open(doors.door_for(some), key)]
                    expected = min(making, key=lambda some: (len(some), some), default=None)
                    self.assertEqual(doors.fewest_makers(keys, key), expected)

    def test_least_of_as_few(self):
        keys = ((0, 1, 0), (0, 1, 1), (1, 0, 0), (1, 0, 1), (2, 2, 2))
        self.assertEqual(doors.fewest_makers(keys, (0, 0, 0)), ((0, 1, 0), (1, 0, 0)))
        self.assertEqual(doors.fewest_makers(keys, (0, 0, 1)), ((0, 1, 0), (1, 0, 1)))
        self.assertEqual(doors.fewest_makers(keys, (2, 1, 0)), ((0, 1, 0), (2, 2, 2)))
        self.assertEqual(doors.fewest_makers(keys, (2, 0, 1)), ((1, 0, 1), (2, 2, 2)))

    def test_twelve_makers(self):
        keys = tuple((0,) * at + (1,) + (0,) * (11 - at) for at in range(11, -1, -1))
        self.assertEqual(doors.fewest_makers(keys, (1,) * 12), keys)
        self.assertEqual(doors.fewest_makers(keys, (1,) * 11 + (0,)), keys[1:])
        self.assertEqual(doors.fewest_makers(keys, (0,) * 12), keys[:2])
        self.assertIsNone(doors.fewest_makers(keys, (1,) * 11 + (2,)))

    def hold_against_listing(self, keys, key):
        making = (some for many in range(1, len(keys) + 1) for some in combinations(keys, many)
                  if can_open(doors.door_for(some), key))
        self.assertEqual(doors.fewest_makers(keys, key), next(making, None), (keys, key))

    def test_drawn_keys_against_listing(self):
        draw = Random(5)
        for _ in range(250):
            pins, depth = draw.randint(1, 12), draw.randint(2, 4)
            keys = tuple(sorted({tuple(draw.randrange(depth) for _ in range(pins)) for _ in range(draw.randint(1, 8))}))
            self.hold_against_listing(keys, tuple(draw.choice(keys)[pin] for pin in range(pins)))
            self.hold_against_listing(keys, tuple(draw.randrange(depth) for _ in range(pins)))

    def test_twelve_drawn_keys_of_forty_pins(self):
        draw = Random(12)
        for givers in (1, 2, 3, 6):
            for _ in range(4):
                # at each pin so many of the twelve KEYS, or one more, have the cut 0 that is wanted
                columns = [draw.sample(range(12), givers + pin % 2) for pin in range(40)]
                keys = tuple(sorted(tuple(0 if at in column else 10 ** 6 - 1 - at for column in columns)
                                    for at in range(12)))
                self.hold_against_listing(keys, (0,) * 40)

    def test_few_steps(self):
        # no set but the whole one gives all pins here: going through all sets would be 4095 steps
        keys = tuple(sorted(tuple(1 if j == k else 0 for j in range(12)) for k in range(12)))
        steps, least = [], doors.Makers.least

        def counted(makers, at, left, many):
            steps.append(at)
            return least(makers, at, left, many)

        with patch.object(doors.Makers, "least", counted):
            self.assertEqual(doors.fewest_makers(keys, (1,) * 12), keys)
        self.assertLess(len(steps), 100)

    def test_told_as_lists(self):
        keys = [[0, 0], [0, 1], [1, 2]]
        for result in (doors.givers(keys, [0, 2]), doors.fewest_makers(keys, [0, 2]), doors.door_for(keys)):
            self.assertIsInstance(result, tuple)
            self.assertFalse(has_list(result), result)


if __name__ == "__main__":
    unittest.main()

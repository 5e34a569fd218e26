"""Point 4: KEYS, held against plain listings, and great DEPTHS."""

import unittest

from tests.support import NEVER, OUTSIDE, has_list, keys_of, room, subsets
from undermasters import cuts
from undermasters.errors import NoNumber

SMALL = ((2,), (4,), (2, 3), (3, 2), (3, 3), (2, 2, 2))
GREAT = (10 ** 6,) * 40


def commons_of(depths):
    """Some COMMON KEYS: all of one and of two KEYS, and a few of more."""
    keys = keys_of(depths)
    return subsets(keys, 1, 2) + [tuple(keys[:3]), tuple(keys[-3:]), tuple(keys)]


def room_lets(common, one, other):
    """Whether at each pin the ROOM of other lets the cut of one."""
    return all(cut in cuts_there for cut, cuts_there in zip(one, room(common, other)))


class Depths(unittest.TestCase):

    def test_depths(self):
        for thing in ((2,), (20,) * 12, (2, 3, 4), (10 ** 6,) * 40, (2,) * 100, (10 ** 50, 2)):
            self.assertIs(cuts.is_depths(thing), True, thing)

    def test_no_depths(self):
        wrong = ((), (1,), (0,), (2, 1), (1, 2), (2, -2), (2, True), (True, 2), (False,), (2, None), (2, "2"), (2, (2,)))
        for thing in (*wrong, [2], [2, 3], ((2, 3),), ([2],), (2, [3]), "2", "23", 2, None, True, False):
            self.assertIs(cuts.is_depths(thing), False, thing)

    def test_never(self):
        for thing in NEVER:
            self.assertIs(cuts.is_depths(thing), False, thing)


class IsKey(unittest.TestCase):

    def test_just_the_listed_ones(self):
        for depths in SMALL:
            listed = keys_of(depths)
            for thing in keys_of([depth + 2 for depth in depths]):
                self.assertIs(cuts.is_key(depths, thing), thing in listed, (depths, thing))

    def test_other_lengths(self):
        for thing in ((), (0,), (0, 0, 0), (1, 1, 0)):
            self.assertIs(cuts.is_key((2, 2), thing), False, thing)

    def test_wrong_things(self):
        for thing in (*NEVER, (False, True), (0, True), (True, 0), (0, -1), (-1, 0), [0, 1], ((0, 1),)):
            for depths in ((3, 3), [3, 3], (10 ** 6, 10 ** 6)):
                self.assertIs(cuts.is_key(depths, thing), False, thing)

    def test_each_kind_at_one_pin(self):
        for thing in NEVER:
            if thing not in (0, 1, 2) or isinstance(thing, bool):
                self.assertIs(cuts.is_key((3,), (thing,)), False, thing)
                self.assertIs(cuts.is_key((3, 3), (0, thing)), False, thing)

    def test_great(self):
        self.assertIs(cuts.is_key(GREAT, (10 ** 6 - 1,) * 40), True)
        self.assertIs(cuts.is_key(GREAT, (0,) * 39 + (10 ** 6,)), False)
        self.assertIs(cuts.is_key(GREAT, (0,) * 39), False)


class IsKeys(unittest.TestCase):

    def test_all_sets(self):
        for some in subsets(keys_of((2, 3)), 0, 6):
            self.assertIs(cuts.is_keys((2, 3), some), True, some)

    def test_order_and_twice(self):
        for one in keys_of((2, 3)):
            for other in keys_of((2, 3)):
                self.assertIs(cuts.is_keys((2, 3), (one, other)), one < other, (one, other))
                self.assertIs(cuts.is_keys((2, 3), ((0, 0), one, other)), (0, 0) < one < other, (one, other))

    def test_however_many(self):
        many = tuple(keys_of((20, 20)))
        self.assertIs(cuts.is_keys((20, 20), many), True)
        self.assertIs(cuts.is_keys((20, 20), many + many[-1:]), False)

    def test_other_depths(self):
        self.assertIs(cuts.is_keys((2, 2), ((0, 0), (0, 2))), False)
        self.assertIs(cuts.is_keys((2, 2), ((0,), (0, 1))), False)
        self.assertIs(cuts.is_keys((2, 2), ((0, 0), (0, 1, 0))), False)

    def test_wrong_things(self):
        for thing in NEVER:
            self.assertIs(cuts.is_keys((3, 3), thing), False, thing)
            self.assertIs(cuts.is_keys((3, 3), (thing,)), False, thing)
            self.assertIs(cuts.is_keys((3, 3), ((0, 0), thing)), False, thing)
        for thing in ([], [(0, 0)], ([0, 0],), ((0, 0), [0, 1]), ((0, False),), ((0, 0), (0, True)), (0, 0)):
            self.assertIs(cuts.is_keys((3, 3), thing), False, thing)

    def test_no_keys(self):
        self.assertIs(cuts.is_keys((3, 3), ()), True)


class Numbers(unittest.TestCase):

    def test_listing(self):
        for depths in SMALL:
            listed = keys_of(depths)
            self.assertEqual(cuts.how_many_keys(depths), len(listed))
            self.assertEqual([cuts.nth_key(depths, number) for number in range(len(listed))], listed)
            self.assertEqual([cuts.number_of_key(depths, key) for key in listed], list(range(len(listed))))

    def test_no_number(self):
        for depths in SMALL:
            for number in (*OUTSIDE, len(keys_of(depths)), len(keys_of(depths)) + 1):
                with self.assertRaises(NoNumber) as caught:
                    cuts.nth_key(depths, number)
                self.assertEqual(caught.exception.number, number)

    def test_great_there_and_back(self):
        self.assertEqual(cuts.how_many_keys(GREAT), 10 ** 240)
        for number in (0, 1, 10 ** 6 - 1, 10 ** 6, 10 ** 39 + 7, 10 ** 40 - 1, 10 ** 40):
            key = cuts.nth_key(GREAT, number)
            self.assertIs(cuts.is_key(GREAT, key), True)
            self.assertEqual(cuts.number_of_key(GREAT, key), number)
        self.assertEqual(cuts.nth_key(GREAT, 10 ** 40), (0,) * 33 + (10 ** 4,) + (0,) * 6)
        self.assertEqual(cuts.nth_key(GREAT, 10 ** 240 - 1), (10 ** 6 - 1,) * 40)
        self.assertEqual(cuts.number_of_key(GREAT, (10 ** 6 - 1,) * 40), 10 ** 240 - 1)

    def test_great_from_a_key(self):
        key = tuple((pin * 77777 + 5) * 31 % 10 ** 6 for pin in range(40))
        self.assertEqual(cuts.nth_key(GREAT, cuts.number_of_key(GREAT, key)), key)

    def test_great_ascending(self):
        numbers = (5, 10 ** 6 + 4, 10 ** 12, 10 ** 39, 10 ** 40)
        keys = [cuts.nth_key(GREAT, number) for number in numbers]
        self.assertEqual(keys, sorted(keys))

    def test_great_no_number(self):
        for number in (-1, -(10 ** 40), 10 ** 240):
            with self.assertRaises(NoNumber) as caught:
                cuts.nth_key(GREAT, number)
            self.assertEqual(caught.exception.number, number)
        for depths in ((20,) * 12, (2,) * 12):
            with self.assertRaises(NoNumber):
                cuts.nth_key(depths, 10 ** 40)

    def test_mixed_depths(self):
        depths = (20, 2, 7, 10 ** 6, 3, 2, 20, 11, 5, 2, 2, 9)
        for number in (0, 1, 8, 9, 12345678901234, cuts.how_many_keys(depths) - 1):
            self.assertEqual(cuts.number_of_key(depths, cuts.nth_key(depths, number)), number)


class Rows(unittest.TestCase):

    def test_common_cuts(self):
        for depths in SMALL:
            for common in commons_of(depths):
                expected = tuple(tuple(sorted({key[pin] for key in common})) for pin in range(len(depths)))
                self.assertEqual(cuts.common_cuts(common), expected)

    def test_common_cuts_are_ascending(self):
        common = ((0, 33, 10 ** 5), (1, 8, 17), (2, 1, 64), (3, 8, 9))
        self.assertEqual(cuts.common_cuts(common), ((0, 1, 2, 3), (1, 8, 33), (9, 17, 64, 10 ** 5)))

    def test_each_key(self):
        for depths in SMALL:
            for common in commons_of(depths):
                for key in keys_of(depths):
                    is_free = [all(each[pin] != cut for each in common) for pin, cut in enumerate(key)]
                    free = tuple(pin for pin, really in enumerate(is_free) if really)
                    self.assertEqual(cuts.free_pins(common, key), free)
                    self.assertEqual(cuts.rank(common, key), len(free))
                    row = tuple(cut if pin in free else None for pin, cut in enumerate(key))
                    self.assertEqual(cuts.row_of(common, key), row)

    def test_alike(self):
        for depths in SMALL:
            for common in commons_of(depths):
                for one in keys_of(depths):
                    for other in keys_of(depths):
                        same = cuts.row_of(common, one) == cuts.row_of(common, other)
                        self.assertIs(cuts.alike(common, one, other), same)

    def test_alike_at_other_pins(self):
        common = ((0, 0), (1, 1))
        self.assertIs(cuts.alike(common, (0, 2), (1, 2)), True)
        self.assertIs(cuts.alike(common, (0, 2), (2, 0)), False)
        self.assertIs(cuts.alike(common, (0, 0), (1, 0)), True)
        self.assertIs(cuts.alike(common, (0, 2), (0, 3)), False)


class Rooms(unittest.TestCase):

    def test_each_pair(self):
        for depths in SMALL:
            for common in commons_of(depths):
                for one in keys_of(depths):
                    for other in keys_of(depths):
                        bars = [pin for pin, cut in enumerate(one) if cut not in room(common, other)[pin]]
                        self.assertIs(cuts.opens_room(common, one, other), not bars)
                        self.assertEqual(cuts.barring_pin(common, one, other), bars[0] if bars else None)

    def test_common_keys_open_all(self):
        common = ((0, 1, 2), (2, 2, 0))
        for key in keys_of((3, 3, 3)):
            self.assertIs(cuts.opens_room(common, key, key), True)
            for one in common:
                self.assertIs(cuts.opens_room(common, one, key), True)
                self.assertIsNone(cuts.barring_pin(common, one, key))

    def test_openers_and_opened(self):
        for depths in ((3, 2), (2, 2, 2)):
            listed = keys_of(depths)
            for common in commons_of(depths):
                for keys in ((), tuple(listed), tuple(listed[1::2]), tuple(listed[2:5])):
                    for key in listed:
                        openers = tuple(one for one in keys if room_lets(common, one, key))
                        opened = tuple(one for one in keys if room_lets(common, key, one))
                        self.assertEqual(cuts.openers_of(common, keys, key), openers)
                        self.assertEqual(cuts.opened_by(common, keys, key), opened)

    def test_clash(self):
        for depths in ((3, 2), (2, 2, 2)):
            for common in subsets(keys_of(depths), 1, 2):
                for keys in subsets(keys_of(depths), 0, 3):
                    pairs = [(one, other) for one in keys for other in keys if one != other]
                    opening = [(one, other) for one, other in pairs if room_lets(common, one, other)]
                    self.assertEqual(cuts.clash(common, keys), min(opening, default=None))

    def test_clash_of_alike_keys(self):
        common = ((0, 0), (1, 1))
        self.assertEqual(cuts.clash(common, ((0, 2), (1, 2))), ((0, 2), (1, 2)))
        self.assertIsNone(cuts.clash(common, ((0, 2),)))

    def test_clash_told_from_behind(self):
        # only the greater KEY opens the ROOM of the lesser one
        self.assertEqual(cuts.clash(((2, 2),), ((0, 0), (2, 0))), ((2, 0), (0, 0)))

    def test_great(self):
        common = ((0,) * 40, (10 ** 6 - 1,) * 40)
        one, other = (5,) + (0,) * 39, (5,) * 39 + (10 ** 6 - 1,)
        keys = tuple(sorted([one, other, (7,) * 40, (8,) * 40]))
        self.assertEqual(cuts.common_cuts(common), ((0, 10 ** 6 - 1),) * 40)
        self.assertEqual(cuts.rank(common, other), 39)
        self.assertEqual(cuts.free_pins(common, (7,) * 40), tuple(range(40)))
        self.assertIs(cuts.opens_room(common, one, other), True)
        self.assertEqual(cuts.barring_pin(common, other, one), 1)
        self.assertEqual(cuts.openers_of(common, keys, other), (one, other))
        self.assertEqual(cuts.opened_by(common, keys, one), (one, other))
        self.assertEqual(cuts.clash(common, keys), (one, other))

    def test_forty_quiet_keys(self):
        keys = tuple((first,) + (41 - first,) * 39 for first in range(1, 41))
        self.assertIsNone(cuts.clash(((0,) * 40,), keys))
        more = keys + ((41,) + (0,) * 39,)
        self.assertIsNone(cuts.clash(((0,) * 40,), more))
        self.assertEqual(cuts.clash(((0,) * 40,), ((1,) + (0,) * 39,) + keys), ((1,) + (0,) * 39, keys[0]))


class Kinds(unittest.TestCase):

    def test_keys_told_as_lists_come_back_as_tuples(self):
        keys = [[1, 0, 0], [1, 2, 0], [2, 2, 1]]
        for result in (
            cuts.openers_of([[0, 0, 0]], keys, [1, 2, 1]),
            cuts.opened_by([[0, 0, 0]], keys, [1, 0, 0]),
            cuts.clash([[0, 0, 0]], keys),
        ):
            self.assertIsInstance(result, tuple)
            self.assertFalse(has_list(result), result)


if __name__ == "__main__":
    unittest.main()

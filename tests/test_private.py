"""Point 11: private rooms, held against plain listings, and great houses there and back."""

import unittest
from random import Random

from tests.support import HOUSES, OUTSIDE, are_quiet, has_list, how_many_free, keys_of, lets, room, subsets
from tests.test_more import drawn_house, how_many_in_some, size
from undermasters import most, private
from undermasters.errors import NoNumber

TWELVE = (20,) * 12


def are_harmless(depths, common, own):
    """All KEYS that are no COMMON KEY and open the ROOM of none of own."""
    return [key for key in keys_of(depths) if key not in common and not any(lets(common, key, each) for each in own)]


def least_breach(common, own, hidden):
    """The least pair of a KEY and another one's KEY whose room it opens; each one is told by its KEY and its kind."""
    people = ([(key, "own") for key in own] + [(key, "private") for key in hidden] + [(key, "common") for key in common])
    pairs = []
    for one, kind in people:
        for other, of in people:
            if (one, kind) != (other, of) and of == "private" and one == other:
                pairs.append((one, other))
            if (one, kind) != (other, of) and of == "own" and kind != "common" and lets(common, one, other):
                pairs.append((one, other))
    return min(pairs, default=None)


def how_many_harmless_by_parts(depths, common, own):
    """How many KEYS are harmless, by what all sets of DOORs have in common."""
    boxes = [room(common, key) for key in own]
    begun = [set(range(depth)) for depth in depths]
    openers = [key for key in common if any(lets(common, key, each) for each in own)]
    return size(begun) - how_many_in_some(boxes) - len([key for key in common if key not in openers])


class Small(unittest.TestCase):

    def test_against_listing(self):
        for depths, common in HOUSES:
            for own in subsets(keys_of(depths), 0, 2):
                if are_quiet(common, own):
                    self.hold_against_listing(depths, common, own)

    def hold_against_listing(self, depths, common, own):
        listed = are_harmless(depths, common, own)
        self.assertEqual(private.how_many_harmless(depths, common, own), len(listed))
        ranks = [how_many_free(common, key) for key in listed]
        self.assertEqual(private.harmless_ranks(depths, common, own),
                         tuple(ranks.count(free) for free in range(len(depths) + 1)))
        self.assertEqual([private.nth_harmless(depths, common, own, number) for number in range(len(listed))], listed)
        for key in keys_of(depths):
            self.assertIs(private.is_harmless(depths, common, own, key), key in listed)
            self.assertIs(private.is_harmless(depths, common, own, list(key)), key in listed)
            number = listed.index(key) if key in listed else None
            self.assertEqual(private.number_of_harmless(depths, common, own, key), number)
        for number in (*OUTSIDE, len(listed), len(listed) + 1):
            with self.assertRaises(NoNumber) as caught:
                private.nth_harmless(depths, common, own, number)
            self.assertEqual(vars(caught.exception), {"number": number})

    def test_whole_ranks(self):
        for depths, common in HOUSES:
            for free in range(len(depths) + 1):
                own = most.rank_rooms(depths, common, free)
                if own:
                    self.hold_against_listing(depths, common, own)
                    greater = tuple(most.how_many_of_rank(depths, common, rank) if rank > free else 0
                                    for rank in range(len(depths) + 1))
                    self.assertEqual(private.harmless_ranks(depths, common, own), greater)

    def test_breach(self):
        for depths, common in HOUSES:
            keys = keys_of(depths)
            for own in subsets(keys, 0, 2):
                for hidden in subsets(keys, 0, 2 if len(keys) < 10 else 1):
                    expected = least_breach(common, own, hidden)
                    self.assertEqual(private.breach(depths, common, own, hidden), expected)
                    self.assertIs(private.is_house_closed(depths, common, own, hidden), expected is None)
                    # the guarantee
                    harmless = all(key in are_harmless(depths, common, own) for key in hidden)
                    self.assertIs(expected is None, are_quiet(common, own) and harmless)

    def test_all_harmless_at_once(self):
        for depths, common in HOUSES:
            for own in subsets(keys_of(depths), 0, 2):
                if are_quiet(common, own):
                    listed = tuple(are_harmless(depths, common, own))
                    self.assertIs(private.is_house_closed(depths, common, own, listed), True)
                    for key in keys_of(depths):
                        if key not in listed:
                            more = tuple(sorted((*listed, key)))
                            self.assertIs(private.is_house_closed(depths, common, own, more), False)

    def test_a_key_in_both(self):
        for depths, common in HOUSES:
            for key in keys_of(depths):
                self.assertEqual(private.breach(depths, common, (key,), (key,)), (key, key))

    def test_common_keys(self):
        # a COMMON KEY may open the ROOM of an OWN KEY, also its own one, but no private room
        common = ((0, 0), (1, 1))
        self.assertIsNone(private.breach((3, 3), common, ((0, 0),), ()))
        self.assertIsNone(private.breach((3, 3), common, ((2, 2),), ()))
        self.assertEqual(private.breach((3, 3), common, (), ((1, 1), (2, 2))), ((1, 1), (1, 1)))
        self.assertIsNone(private.breach((3, 3), common, (), ((0, 1), (2, 2))))
        self.assertEqual(private.breach((3, 3), common, ((2, 2),), ((0, 1),)), ((0, 1), (2, 2)))
        self.assertIs(private.is_harmless((3, 3), common, (), (0, 0)), False)
        self.assertIs(private.is_harmless((3, 3), common, (), (0, 1)), True)

    def test_kept_private(self):
        for depths, common in HOUSES:
            keys = keys_of(depths)
            for hidden in (*subsets(keys, 0, 2), tuple(keys)):
                for key in keys:
                    expected = tuple(each for each in hidden if each in are_harmless(depths, common, (key,)))
                    self.assertEqual(private.kept_private(depths, common, hidden, key), expected)

    def test_told_as_lists(self):
        common, own = [[0, 0]], [[1, 0], [2, 0]]
        self.assertIs(private.is_harmless([3, 3], common, own, [0, 0]), False)
        self.assertIs(private.is_harmless([3, 3], common, [], [0, 0]), False)
        for result in (private.breach([3, 3], common, own, [[1, 0]]), private.kept_private([3, 3], common, own, [1, 1]),
                       private.harmless_ranks([3, 3], common, own), private.nth_harmless([3, 3], common, own, 0)):
            self.assertIsInstance(result, tuple)
            self.assertFalse(has_list(result), result)
        self.assertEqual((common, own), ([[0, 0]], [[1, 0], [2, 0]]))


class Great(unittest.TestCase):

    def there_and_back(self, depths, common, own):
        many = private.how_many_harmless(depths, common, own)
        self.assertEqual(sum(private.harmless_ranks(depths, common, own)), many)
        self.assertEqual(many, how_many_harmless_by_parts(depths, common, own))
        for number in (0, 1, 1234567890, many // 2, many - 2, many - 1):
            if 0 <= number < many:
                key = private.nth_harmless(depths, common, own, number)
                self.assertIs(private.is_harmless(depths, common, own, key), True)
                self.assertFalse(key in common or any(lets(common, key, each) for each in own))
                self.assertEqual(private.number_of_harmless(depths, common, own, key), number)
        for number in (-1, -(10 ** 40), many, 10 ** 40):
            with self.assertRaises(NoNumber) as caught:
                private.nth_harmless(depths, common, own, number)
            self.assertEqual(caught.exception.number, number)

    def test_six_common_and_ten_own_keys(self):
        draw = Random(11)
        for _ in range(8):
            common, own = drawn_house(draw, 12, 20, 10)
            self.assertEqual((len(common), len(own)), (6, 10))
            self.there_and_back(TWELVE, common, own)
        self.there_and_back(TWELVE, common, ())
        self.there_and_back(TWELVE, ((0,) * 12,), tuple(sorted((1,) * at + (2,) * (12 - at) for at in range(10))))

    def test_number_is_how_many_are_less(self):
        # all KEYS less than (0, .., 0, 1, 0) but the COMMON KEY are harmless: their last but one cut is common
        own, common = ((1,) * 12,), ((0,) * 12,)
        self.assertEqual(private.number_of_harmless(TWELVE, common, own, (0,) * 10 + (2, 0)), 20 + 20 - 4)
        self.assertEqual(private.nth_harmless(TWELVE, common, own, 0), (0,) * 11 + (2,))

    def test_forty_and_forty(self):
        draw = Random(44)
        for depth, wide in ((20, 2), (20, 3), (20, 20)):
            common = ((0,) * 12,) if wide < 20 else tuple((at,) * 12 for at in range(6))
            keys = set()
            while len(keys) < 80:
                keys.add(tuple(draw.randrange(wide) for _ in range(12)))
            keys = draw.sample(sorted(keys), 80)
            own, hidden = tuple(sorted(keys[:40])), tuple(sorted(keys[40:]))
            expected = least_breach(common, own, hidden)
            self.assertEqual(private.breach((depth,) * 12, common, own, hidden), expected)
            self.assertIs(private.is_house_closed((depth,) * 12, common, own, hidden), expected is None)
            key = hidden[7]
            self.assertEqual(private.kept_private((depth,) * 12, common, hidden, key),
                             tuple(each for each in hidden if each not in common and not lets(common, each, key)))

    def test_forty_that_are_closed(self):
        own = tuple(sorted((1 + at // 20, 1 + at % 19) + (1,) * 10 for at in range(38)))
        hidden = tuple(sorted((3 + at // 20, 1 + at % 19) + (0,) * 10 for at in range(38)))
        self.assertIs(private.is_house_closed(TWELVE, ((0,) * 12,), own, hidden), True)
        self.assertEqual(private.breach(TWELVE, ((0,) * 12,), own, (hidden[0], own[30])), (own[30], own[30]))


if __name__ == "__main__":
    unittest.main()

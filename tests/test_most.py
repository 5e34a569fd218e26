"""Point 7: RANKs and ROWs, held against plain listings, and great ones there and back."""

import unittest
from itertools import combinations
from random import Random

from tests.support import HOUSES, OUTSIDE, are_quiet, has_list, how_many_free, keys_of, lets, room, row, subsets
from undermasters import most
from undermasters.errors import NoNumber

FORTY = (10 ** 6,) * 40


def rows_by_rank(depths, common):
    """For each RANK the ROWs of all KEYS of this RANK, ascending, None as less than all cuts."""
    rows = [set() for _ in range(len(depths) + 1)]
    for key in keys_of(depths):
        rows[how_many_free(common, key)].add(row(common, key))
    return [sorted(some, key=lambda each: [-1 if cut is None else cut for cut in each]) for some in rows]


def key_for(common, some):
    """The KEY with this ROW and with the least common cut where there is None."""
    return tuple(min(each[pin] for each in common) if cut is None else cut for pin, cut in enumerate(some))


def one_for_each_row(depths, common):
    """One KEY for each ROW."""
    found = {}
    for key in keys_of(depths):
        found.setdefault(row(common, key), key)
    return list(found.values())


def has_row_of(common, keys, many):
    """Whether there are so many of the KEYS of which each one opens the ROOM of the next one."""
    ends = list(keys)
    for _ in range(many - 1):
        ends = [other for other in keys if any(one != other and lets(common, one, other) for one in ends)]
    return len(ends) > 0


def drawn_common(draw, depths, many):
    """So many COMMON KEYS."""
    return tuple(sorted({tuple(draw.randrange(depth) for depth in depths) for _ in range(many)}))


class Ranks(unittest.TestCase):

    def test_against_listing(self):
        for depths, common in HOUSES:
            sizes = tuple(len(rows) for rows in rows_by_rank(depths, common))
            self.assertEqual(most.rank_sizes(depths, common), sizes)
            self.assertEqual(most.most_rooms(depths, common), max(sizes))
            self.assertEqual(most.best_ranks(depths, common),
                             tuple(free for free, size in enumerate(sizes) if size == max(sizes)))
            for many in range(1, len(sizes) + 3):
                self.assertEqual(most.most_without_rows(depths, common, many),
                                 sum(sorted(sizes, reverse=True)[:many]))
            self.assertEqual(most.most_without_rows(depths, common, 10 ** 40), sum(sizes))

    def test_all_common_keys_of_small_depths(self):
        for depths in ((3,), (2, 2), (2, 3)):
            for common in subsets(keys_of(depths), 1, 4):
                self.assertEqual(most.rank_sizes(depths, common),
                                 tuple(len(rows) for rows in rows_by_rank(depths, common)))

    def test_guarantee_of_quiet_keys(self):
        for depths, common in HOUSES:
            keys = keys_of(depths)
            if len(keys) <= 9:
                reached = max(len(some) for some in subsets(keys, 0, len(keys)) if are_quiet(common, some))
                self.assertEqual(most.most_rooms(depths, common), reached)

    def test_guarantee_of_short_rows(self):
        for depths, common in HOUSES:
            keys = one_for_each_row(depths, common)
            if len(keys) <= 9:
                for many in (1, 2, 3, 4):
                    reached = max(len(some) for some in subsets(keys, 0, len(keys))
                                  if not has_row_of(common, some, many + 1))
                    self.assertEqual(most.most_without_rows(depths, common, many), reached)

    def test_how_many_of_rank(self):
        for depths, common in HOUSES:
            ranks = [how_many_free(common, key) for key in keys_of(depths)]
            for free in range(len(depths) + 1):
                self.assertEqual(most.how_many_of_rank(depths, common, free), ranks.count(free))

    def test_keys_like(self):
        for depths, common in HOUSES:
            rows = [row(common, key) for key in keys_of(depths)]
            for key in keys_of(depths):
                self.assertEqual(most.keys_like(depths, common, key), rows.count(row(common, key)))

    def test_one_more_pin(self):
        for depths, common in HOUSES:
            for depth in (2, 3, 5):
                longer = tuple((*key, 0) for key in common)
                expected = (max(len(rows) for rows in rows_by_rank((*depths, depth), longer))
                            - max(len(rows) for rows in rows_by_rank(depths, common)))
                self.assertEqual(most.one_more_pin(depths, common, depth), expected)


class Rows(unittest.TestCase):

    def test_each_row(self):
        for depths, common in HOUSES:
            for free, rows in enumerate(rows_by_rank(depths, common)):
                keys = [key_for(common, some) for some in rows]
                self.assertEqual([most.nth_room(depths, common, free, number) for number in range(len(rows))], keys)
                self.assertEqual(most.rank_rooms(depths, common, free), tuple(sorted(keys)))

    def test_number_of_each_key(self):
        for depths, common in HOUSES:
            rows = rows_by_rank(depths, common)
            for key in keys_of(depths):
                number = rows[how_many_free(common, key)].index(row(common, key))
                self.assertEqual(most.number_of_room(depths, common, key), number)

    def test_rank_rooms_are_ascending_and_quiet(self):
        # by ROWs the order is another one: where the least common cut is not 0, None is not the least cut
        depths, common = (3, 3), ((2, 1),)
        self.assertEqual([most.nth_room(depths, common, 1, number) for number in range(4)],
                         [(2, 0), (2, 2), (0, 1), (1, 1)])
        self.assertEqual(most.rank_rooms(depths, common, 1), ((0, 1), (1, 1), (2, 0), (2, 2)))
        for depths, common in HOUSES:
            for free in range(len(depths) + 1):
                self.assertTrue(are_quiet(common, most.rank_rooms(depths, common, free)))

    def test_no_number(self):
        for depths, common in HOUSES:
            for free, size in enumerate(most.rank_sizes(depths, common)):
                for number in (*OUTSIDE, size, size + 1):
                    with self.assertRaises(NoNumber) as caught:
                        most.nth_room(depths, common, free, number)
                    self.assertEqual(vars(caught.exception), {"number": number})

    def test_a_rank_without_rows(self):
        depths, common = (2, 5), ((0, 0), (1, 4))
        self.assertEqual(most.rank_sizes(depths, common), (1, 3, 0))
        self.assertEqual(most.rank_rooms(depths, common, 2), ())
        self.assertEqual(most.how_many_of_rank(depths, common, 2), 0)
        with self.assertRaises(NoNumber):
            most.nth_room(depths, common, 2, 0)


class Great(unittest.TestCase):

    def products(self, free_cuts):
        """For each RANK the sum of the products of all choices of so many pins; for few pins."""
        sums = []
        for many in range(len(free_cuts) + 1):
            total = 0
            for some in combinations(free_cuts, many):
                product = 1
                for each in some:
                    product *= each
                total += product
            sums.append(total)
        return tuple(sums)

    def test_twelve_pins(self):
        draw = Random(7)
        for depths in ((20,) * 12, (10 ** 6, 2, 3, 10 ** 5, 7, 2, 2, 99, 10 ** 6, 4, 5, 6)):
            common = drawn_common(draw, depths, 6)
            free_cuts = [depth - len({key[pin] for key in common}) for pin, depth in enumerate(depths)]
            self.assertEqual(most.rank_sizes(depths, common), self.products(free_cuts))

    def test_forty_pins_in_all(self):
        draw = Random(40)
        common = drawn_common(draw, FORTY, 6)
        sizes, in_all = most.rank_sizes(FORTY, common), 1
        for pin in range(40):
            in_all *= 1 + 10 ** 6 - len({key[pin] for key in common})
        self.assertEqual((len(sizes), sum(sizes), sizes[0]), (41, in_all, 1))
        self.assertEqual(most.most_without_rows(FORTY, common, 41), in_all)
        self.assertEqual(most.most_without_rows(FORTY, common, 10 ** 40), in_all)
        self.assertEqual(sum(most.how_many_of_rank(FORTY, common, free) for free in range(41)), 10 ** 240)
        self.assertEqual(most.best_ranks(FORTY, common), (40,))
        self.assertEqual(most.most_rooms(FORTY, common), sizes[40])
        longer = tuple((*key, 0) for key in common)
        self.assertEqual(most.one_more_pin(FORTY, common, 10 ** 6), sizes[40] * (10 ** 6 - 1) - sizes[40])
        self.assertEqual(most.most_rooms((*FORTY, 10 ** 6), longer), sizes[40] * (10 ** 6 - 1))

    def test_forty_pins_there_and_back(self):
        draw = Random(41)
        for depths in (FORTY, tuple(draw.randint(2, 10 ** 6) for _ in range(40)), (2,) * 40, (2, 10 ** 6) * 20):
            common = drawn_common(draw, depths, 6)
            for free, size in enumerate(most.rank_sizes(depths, common)):
                numbers = [number for number in (0, 1, size // 3, 10 ** 40, size - 2, size - 1) if 0 <= number < size]
                for number in numbers:
                    key = most.nth_room(depths, common, free, number)
                    self.assertEqual(how_many_free(common, key), free)
                    self.assertEqual(key, key_for(common, row(common, key)))
                    self.assertEqual(most.number_of_room(depths, common, key), number)
                for number in (-1, -(10 ** 40), size, size + 10 ** 40):
                    with self.assertRaises(NoNumber) as caught:
                        most.nth_room(depths, common, free, number)
                    self.assertEqual(caught.exception.number, number)

    def test_neighbours_ascend(self):
        draw = Random(42)
        common = drawn_common(draw, FORTY, 6)
        for free in (1, 20, 40):
            size = most.rank_sizes(FORTY, common)[free]
            for number in (0, 12345, size // 2, size - 2):
                pair = [row(common, most.nth_room(FORTY, common, free, number + more)) for more in (0, 1)]
                low, high = [[-1 if cut is None else cut for cut in some] for some in pair]
                self.assertLess(low, high)

    def test_keys_like(self):
        common = tuple(sorted(((at,) * 40) for at in range(6)))
        self.assertEqual(most.keys_like(FORTY, common, (0,) * 40), 6 ** 40)
        self.assertEqual(most.keys_like(FORTY, common, (9,) + (5,) * 39), 6 ** 39)
        self.assertEqual(most.keys_like(FORTY, common, (9,) * 40), 1)

    def test_many_rooms(self):
        rooms = most.rank_rooms((2,) * 12, ((0,) * 12,), 4)
        self.assertEqual(rooms, tuple(key for key in keys_of((2,) * 12) if sum(key) == 4))
        wide = most.rank_rooms((500, 10 ** 6), ((7, 0), (8, 5)), 0)
        self.assertEqual(wide, ((7, 0),))
        self.assertEqual(most.rank_rooms((10 ** 6,) * 12, ((3,) * 12,), 0), ((3,) * 12,))
        listed = most.rank_rooms((501,), ((250,),), 1)
        self.assertEqual(listed, tuple((cut,) for cut in range(501) if cut != 250))

    def test_told_as_lists(self):
        common = [[1, 2], [0, 2]]
        for result in (most.rank_sizes([3, 3], common), most.best_ranks([3, 3], common),
                       most.nth_room([3, 3], common, 1, 0), most.rank_rooms([3, 3], common, 1)):
            self.assertIsInstance(result, tuple)
            self.assertFalse(has_list(result), result)
        self.assertEqual(most.one_more_pin([3, 3], common, 4), most.one_more_pin((3, 3), ((0, 2), (1, 2)), 4))
        self.assertEqual(common, [[1, 2], [0, 2]])

    def test_a_room_lets_just_the_openers(self):
        # the KEY for a ROW opens no ROOM of another one of its RANK, as room tells
        rooms = most.rank_rooms((3, 3), ((0, 1),), 1)
        self.assertEqual([room(((0, 1),), key) for key in rooms],
                         [[{0}, {0, 1}], [{0}, {1, 2}], [{0, 1}, {1}], [{0, 2}, {1}]])


if __name__ == "__main__":
    unittest.main()

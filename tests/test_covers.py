"""Point 9: told KEYS covered, held against plain listings of all their sets, wrong things, and 40 KEYS."""

import unittest
from itertools import permutations
from random import Random

from tests.support import HOUSES, NEVER, are_quiet, as_lists, greatest_quiet, has_list, inner_lists, keys_of, lets
from tests.support import mixed_lists, outer_list, subsets
from undermasters import covers

COMMON = ((0, 0, 0),)
KEYS = ((1, 0, 0), (1, 2, 0), (1, 2, 1), (2, 0, 1), (2, 3, 1))


def is_row(common, keys, some):
    return all(lets(common, one, other) for one, other in zip(some, some[1:]))


def rows_of(common, keys):
    """All ROWS OF OPENERS."""
    return [some for many in range(1, len(keys) + 1) for some in permutations(keys, many) if is_row(common, keys, some)]


def fewest_parts(keys, good):
    """How many sets that are good have to be at the least in which each of the KEYS is just once."""
    least = {(): 0}
    for left in subsets(keys, 1, len(keys)):
        # the first one that is left is in some part
        others = subsets(left[1:], 0, len(left) - 1)
        parts = [(left[0], *some) for some in others if good((left[0], *some))]
        least[left] = 1 + min(least[tuple(key for key in left if key not in part)] for part in parts)
    return least[keys]


def can_be_row(common, some):
    """Whether the KEYS of this set can stand in some order such that each one opens the ROOM of the next one."""
    return any(is_row(common, some, order) for order in permutations(some))


def drawn_cases(many, most_keys):
    """COMMON KEYS and sets of KEYS, with many that clash and alike ones among them."""
    draw = Random(9)
    cases = []
    for _ in range(many):
        depths, common = draw.choice(HOUSES)
        keys = keys_of(depths)
        cases.append((common, tuple(sorted(draw.sample(keys, min(len(keys), draw.randint(0, most_keys)))))))
    return cases


class Small(unittest.TestCase):

    def test_greatest_quiet_sets(self):
        for common, keys in drawn_cases(300, 7):
            found = greatest_quiet(common, keys)
            self.assertEqual(covers.most_quiet(common, keys), len(found[0]))
            self.assertIn(covers.quiet_among(common, keys), found)
            self.assertEqual(covers.always_in(common, keys), tuple(key for key in keys if all(key in s for s in found)))
            self.assertEqual(covers.ever_in(common, keys), tuple(key for key in keys if any(key in s for s in found)))

    def test_all_sets_of_small_depths(self):
        for depths, common in HOUSES:
            for keys in subsets(keys_of(depths), 0, 3):
                found = greatest_quiet(common, keys)
                self.assertIn(covers.quiet_among(common, keys), found)
                self.assertEqual(covers.always_in(common, keys),
                                 tuple(key for key in keys if all(key in s for s in found)))
                self.assertEqual(covers.ever_in(common, keys),
                                 tuple(key for key in keys if any(key in s for s in found)))
                self.assertEqual(len(covers.cover_rows(common, keys)), len(found[0]))

    def test_fewest_rows(self):
        for common, keys in drawn_cases(120, 6):
            cover = covers.cover_rows(common, keys)
            self.assertTrue(all(is_row(common, keys, part) and part for part in cover), cover)
            self.assertEqual(sorted(key for part in cover for key in part), list(keys))
            self.assertEqual(len(cover), fewest_parts(keys, lambda some: can_be_row(common, some)))
            # the guarantee
            self.assertEqual(len(cover), covers.most_quiet(common, keys))

    def test_fewest_quiet_sets(self):
        for common, keys in drawn_cases(200, 6):
            cover = covers.quiet_cover(common, keys)
            self.assertTrue(all(are_quiet(common, part) and part == tuple(sorted(part)) and part for part in cover))
            self.assertEqual(sorted(key for part in cover for key in part), list(keys))
            self.assertEqual(len(cover), fewest_parts(keys, lambda some: are_quiet(common, some)))
            if keys:
                # the guarantee
                self.assertEqual(len(cover), len(covers.longest_row(common, keys)))

    def test_longest_row(self):
        for common, keys in drawn_cases(120, 6):
            if keys:
                longest = covers.longest_row(common, keys)
                self.assertIn(longest, rows_of(common, keys))
                self.assertEqual(len(longest), max(len(some) for some in rows_of(common, keys)))

    def test_in_a_row_each_opens_all_behind_it(self):
        for common, keys in drawn_cases(60, 5):
            for some in rows_of(common, keys):
                self.assertTrue(all(lets(common, some[at], other) for at in range(len(some)) for other in some[at:]))

    def test_loners(self):
        for common, keys in drawn_cases(300, 8):
            expected = tuple(key for key in keys
                             if not any(lets(common, key, other) or lets(common, other, key)
                                        for other in keys if other != key))
            self.assertEqual(covers.loners(common, keys), expected)

    def test_none_and_one(self):
        for common in (COMMON, ((0, 0, 0), (1, 2, 1))):
            for function, expected in ((covers.most_quiet, 0), (covers.quiet_among, ()), (covers.cover_rows, ()),
                                       (covers.quiet_cover, ()), (covers.always_in, ()), (covers.ever_in, ()),
                                       (covers.loners, ())):
                self.assertEqual(function(common, ()), expected)
            one = ((1, 2, 1),)
            for function, expected in ((covers.most_quiet, 1), (covers.quiet_among, one), (covers.cover_rows, (one,)),
                                       (covers.longest_row, one), (covers.quiet_cover, (one,)), (covers.loners, one),
                                       (covers.always_in, one), (covers.ever_in, one)):
                self.assertEqual(function(common, one), expected)

    def test_alike_keys(self):
        common, keys = ((0, 0), (1, 1), (2, 2)), tuple(keys_of((3, 3)))
        self.assertEqual((covers.most_quiet(common, keys), len(covers.cover_rows(common, keys))), (1, 1))
        self.assertEqual(sorted(covers.longest_row(common, keys)), list(keys))
        self.assertEqual(len(covers.quiet_cover(common, keys)), 9)
        self.assertEqual((covers.always_in(common, keys), covers.ever_in(common, keys)), ((), keys))
        self.assertEqual(covers.loners(common, keys), ())

    def test_between_two_greatest_but_in_none(self):
        common = ((0, 0, 0, 0),)
        low, high = ((0, 1, 0, 0), (1, 0, 0, 0)), ((1, 1, 0, 1), (1, 1, 1, 0))
        keys = (*low, (1, 1, 0, 0), *high)
        self.assertEqual(greatest_quiet(common, keys), [low, high])
        self.assertEqual(covers.ever_in(common, keys), low + high)
        self.assertEqual(covers.always_in(common, keys), ())


class WrongThings(unittest.TestCase):

    def each_function(self):
        return (covers.is_quiet_among, covers.is_opener_row, covers.is_row_cover, covers.is_quiet_cover)

    def test_all_things_of_small_sets(self):
        for common, keys in drawn_cases(60, 4):
            rows = rows_of(common, keys)
            for many in range(len(keys) + 1):
                for some in permutations(keys, many):
                    quiet = are_quiet(common, some) and some == tuple(sorted(some))
                    self.assertIs(covers.is_quiet_among(common, keys, some), quiet)
                    self.assertIs(covers.is_opener_row(common, keys, some), some in rows)
                    parts = tuple((key,) for key in some)
                    whole = many == len(keys)
                    self.assertIs(covers.is_row_cover(common, keys, parts), whole)
                    self.assertIs(covers.is_quiet_cover(common, keys, parts), whole)
                    for cut in range(1, many):
                        two = (some[:cut], some[cut:])
                        self.assertIs(covers.is_row_cover(common, keys, two), whole and all(p in rows for p in two))
                        quiet = all(are_quiet(common, part) and part == tuple(sorted(part)) for part in two)
                        self.assertIs(covers.is_quiet_cover(common, keys, two), whole and quiet)

    def test_each_kind(self):
        for thing in (*NEVER, "abc", (1, 1, 0), ((((1, 0, 0),),),)):
            for function in self.each_function():
                self.assertIs(function(COMMON, KEYS, thing), False, (function, thing))
                self.assertIs(function(COMMON, KEYS, (thing,)), False, (function, thing))
                self.assertIs(function(COMMON, KEYS, (thing, *KEYS)), False, (function, thing))
                self.assertIs(function(COMMON, KEYS, ((1, 0, 0), thing)), False, (function, thing))
                self.assertIs(function(COMMON, KEYS, ((KEYS[0],), (thing,))), False, (function, thing))
                self.assertIs(function(COMMON, KEYS, (*[(key,) for key in KEYS], thing)), False, (function, thing))

    def test_each_kind_among_the_cuts(self):
        for thing in (*NEVER, "abc"):
            if isinstance(thing, bool) or thing != 0:
                for key in ((1, 0, thing), (1, thing, 0)):
                    for function in self.each_function():
                        self.assertIs(function(COMMON, KEYS[:1], (key,)), False, (function, thing))
                        self.assertIs(function(COMMON, KEYS[:1], ((key,),)), False, (function, thing))

    def test_the_empty_tuple(self):
        self.assertIs(covers.is_quiet_among(COMMON, KEYS, ()), True)
        self.assertIs(covers.is_quiet_among(COMMON, (), ()), True)
        self.assertIs(covers.is_opener_row(COMMON, KEYS, ()), False)
        self.assertIs(covers.is_opener_row(COMMON, (), ()), False)
        for function in (covers.is_row_cover, covers.is_quiet_cover):
            self.assertIs(function(COMMON, KEYS, ()), False)
            self.assertIs(function(COMMON, (), ()), True)
            self.assertIs(function(COMMON, (), ((),)), False)
            self.assertIs(function(COMMON, KEYS[:1], (KEYS[:1],)), True)
            self.assertIs(function(COMMON, KEYS[:1], (KEYS[:1], ())), False)
            self.assertIs(function(COMMON, KEYS[:1], ((), KEYS[:1])), False)

    def test_bools_for_cuts(self):
        keys = ((1, 0, 0),)
        for key in ((True, 0, 0), (1, False, 0), (1, 0, False), (True, False, False)):
            self.assertIs(covers.is_quiet_among(COMMON, keys, (key,)), False)
            self.assertIs(covers.is_opener_row(COMMON, keys, (key,)), False)
            self.assertIs(covers.is_row_cover(COMMON, keys, ((key,),)), False)
            self.assertIs(covers.is_quiet_cover(COMMON, keys, ((key,),)), False)

    def test_keys_twice(self):
        one = KEYS[0]
        for function in self.each_function():
            self.assertIs(function(COMMON, KEYS[:1], (one, one)), False)
            self.assertIs(function(COMMON, KEYS[:1], ((one,), (one,))), False)
            self.assertIs(function(COMMON, KEYS[:1], ((one, one),)), False)
        alike = ((2, 0), (2, 1))
        self.assertIs(covers.is_opener_row(((0, 0), (1, 1)), alike, ((2, 0), (2, 1), (2, 0))), False)
        self.assertIs(covers.is_opener_row(((0, 0), (1, 1)), alike, ((2, 1), (2, 0))), True)

    def test_keys_of_others(self):
        for key in ((1, 1, 0), (0, 0, 0), (1, 0), (1, 0, 0, 0), ()):
            for function in self.each_function():
                self.assertIs(function(COMMON, KEYS, (key,)), False)
                self.assertIs(function(COMMON, KEYS, ((key,),)), False)
                self.assertIs(function(COMMON, KEYS, (KEYS[:3], KEYS[3:], (key,))), False)

    def test_lists(self):
        rows, sets = (KEYS[:3], KEYS[3:]), ((KEYS[0], KEYS[3]), (KEYS[1], KEYS[4]), (KEYS[2],))
        things = ((covers.is_row_cover, rows), (covers.is_quiet_cover, sets), (covers.is_opener_row, KEYS[:3]),
                  (covers.is_quiet_among, (KEYS[1], KEYS[4])))
        for function, thing in things:
            self.assertIs(function(COMMON, KEYS, thing), True)
            self.assertIs(function(as_lists(COMMON), as_lists(KEYS), thing), True)
            for form in (as_lists, outer_list, inner_lists, mixed_lists):
                self.assertIs(function(COMMON, KEYS, form(thing)), False)
            self.assertIs(function(COMMON, KEYS, (*thing[:-1], list(thing[-1]))), False)

    def test_one_left_out(self):
        rows = covers.cover_rows(COMMON, KEYS)
        self.assertIs(covers.is_row_cover(COMMON, KEYS, rows), True)
        self.assertIs(covers.is_row_cover(COMMON, KEYS, rows[::-1]), True)
        self.assertIs(covers.is_row_cover(COMMON, KEYS, rows[1:]), False)
        self.assertIs(covers.is_row_cover(COMMON, KEYS, (*rows, rows[0])), False)
        sets = covers.quiet_cover(COMMON, KEYS)
        self.assertIs(covers.is_quiet_cover(COMMON, KEYS, sets), True)
        self.assertIs(covers.is_quiet_cover(COMMON, KEYS, sets[::-1]), True)
        self.assertIs(covers.is_quiet_cover(COMMON, KEYS, sets[:-1]), False)
        self.assertIs(covers.is_quiet_cover(COMMON, KEYS, (*sets, sets[0])), False)

    def test_long_things(self):
        keys = tuple(keys_of((5, 5, 5)))
        common = tuple((at, at, at) for at in range(5))
        self.assertIs(covers.is_opener_row(common, keys, keys), True)
        self.assertIs(covers.is_opener_row(common, keys, keys[::-1]), True)
        self.assertIs(covers.is_opener_row(common, keys, keys + keys[:1]), False)
        self.assertIs(covers.is_row_cover(common, keys, (keys,)), True)
        self.assertIs(covers.is_quiet_cover(common, keys, tuple((key,) for key in keys)), True)
        self.assertIs(covers.is_quiet_among(common, keys, keys), False)


class Great(unittest.TestCase):

    def forty(self):
        """COMMON KEYS and 40 KEYS of 12 pins, with more and fewer clashes."""
        draw = Random(40)
        cases = []
        for depth, commons, share in ((2, 1, 0.5), (3, 1, 0.7), (3, 2, 0.5), (4, 1, 0.8), (20, 6, 0.9), (2, 1, 0.2)):
            common = tuple(sorted({tuple(draw.randrange(min(depth, commons)) for _ in range(12))
                                   for _ in range(commons)}))
            keys = set()
            while len(keys) < 40:
                keys.add(tuple(0 if draw.random() < share else draw.randrange(depth) for _ in range(12)))
            cases.append((common, tuple(sorted(keys))))
        steps = tuple(sorted((1,) * at + (0,) * (12 - at) for at in range(13)))
        return (*cases, (((0,) * 12,), steps), (((0,) * 12, (1,) * 12), cases[0][1]))

    def test_shown_to_be_the_fewest(self):
        for common, keys in self.forty():
            found = covers.quiet_among(common, keys)
            rows = covers.cover_rows(common, keys)
            # a quiet set of as many KEYS as there are ROWS: neither can be better
            self.assertTrue(are_quiet(common, found))
            self.assertIs(covers.is_quiet_among(common, keys, found), True)
            self.assertIs(covers.is_row_cover(common, keys, rows), True)
            self.assertTrue(all(is_row(common, keys, part) for part in rows))
            self.assertEqual(len(rows), len(found))
            self.assertEqual(covers.most_quiet(common, keys), len(found))
            longest, sets = covers.longest_row(common, keys), covers.quiet_cover(common, keys)
            self.assertTrue(is_row(common, keys, longest))
            self.assertIs(covers.is_opener_row(common, keys, longest), True)
            self.assertIs(covers.is_quiet_cover(common, keys, sets), True)
            self.assertTrue(all(are_quiet(common, part) for part in sets))
            self.assertEqual(len(sets), len(longest))

    def test_always_and_ever(self):
        for common, keys in self.forty():
            greatest = covers.most_quiet(common, keys)
            always, ever = [], []
            for key in keys:
                without = tuple(each for each in keys if each != key)
                apart = tuple(each for each in without if are_quiet(common, (key, each)))
                if covers.most_quiet(common, without) < greatest:
                    always.append(key)
                if covers.most_quiet(common, apart) + 1 == greatest:
                    ever.append(key)
            self.assertEqual(covers.always_in(common, keys), tuple(always))
            self.assertEqual(covers.ever_in(common, keys), tuple(ever))

    def test_told_as_lists(self):
        for common, keys in (*self.forty(), (COMMON, KEYS)):
            for function in (covers.quiet_among, covers.cover_rows, covers.longest_row, covers.quiet_cover,
                             covers.always_in, covers.ever_in, covers.loners):
                result = function(common, keys)
                self.assertEqual(function(as_lists(common), as_lists(keys)), result)
                self.assertEqual(function(keys=list(keys), common=common), result)
                self.assertIsInstance(result, tuple)
                self.assertFalse(has_list(function(as_lists(common), as_lists(keys))))


if __name__ == "__main__":
    unittest.main()

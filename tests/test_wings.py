"""Point 15: WINGS, held against plain listings of who opens which ROOM, and great ones there and back."""

import unittest
from fractions import Fraction
from random import Random

from tests.support import NEVER, OUTSIDE, can_open, has_list, how_many_free, keys_of
from tests.test_more import how_many_in_some
from undermasters import wings
from undermasters.errors import NoKey, NoName, NoNumber
from undermasters.most import most_rooms, rank_sizes

GRAND = ((0, 0, 0),)
EAST = ("east", ((0, 0, 1),), ((2, 2, 3), (2, 3, 3)))
WEST = ("west", ((0, 0, 2),), ((3, 2, 3),))
WINGS = (EAST, WEST)
FOUR = (4, 4, 4)
TWELVE = (20,) * 12
NAMES = ("a", "b", "c", "d", "e", "f")


def drawn_wings(draw, depths, most_grand, most_wings, most_masters, most_own, wide=20):
    """The pair of grand and of WINGS, with as many KEYS as there are at the most, or fewer."""
    many_wings = draw.randrange(1, most_wings + 1)
    grand_many = draw.randrange(most_grand + 1)
    masters_many = [draw.randrange(most_masters + 1) for _ in range(many_wings)]
    own_many = draw.randrange(most_own + 1)
    keys = set()
    for _ in range(400):
        if len(keys) < grand_many + sum(masters_many) + own_many:
            keys.add(tuple(draw.randrange(min(depth, wide)) for depth in depths))
    keys = draw.sample(sorted(keys), len(keys))
    grand, keys = keys[:grand_many], keys[grand_many:]
    parts = []
    for name, many in zip(NAMES, masters_many):
        parts.append([name, sorted(keys[:many]), []])
        keys = keys[many:]
    for key in keys:
        draw.choice(parts)[2].append(key)
    return tuple(sorted(grand)), tuple((name, tuple(masters), tuple(sorted(own))) for name, masters, own in parts)


def small_wings(seed, times):
    draw = Random(seed)
    for _ in range(times):
        depths = draw.choice(((4,), (3, 3), (2, 2, 2), (3, 2, 2), (4, 3)))
        grand, told = drawn_wings(draw, depths, 2, 3, 2, 4)
        yield depths, grand, told


def door_in(grand, masters, key):
    return [{each[pin] for each in (*grand, *masters, key)} for pin in range(len(key))]


def all_strays(grand, told):
    found = []
    for name, masters, own in told:
        for room in own:
            for _, *parts in told:
                for key in (*parts[0], *parts[1]):
                    if key not in grand and key not in masters and key != room:
                        if can_open(door_in(grand, masters, room), key):
                            found.append((key, name, room))
    return tuple(sorted(found))


def with_own(told, name, key):
    return tuple((each, masters, tuple(sorted((*own, key))) if each == name else own) for each, masters, own in told)


def standing(grand, told):
    return [*grand, *[key for _, masters, own in told for key in (*masters, *own)]]


def listed_open(depths, grand, told, name):
    """All KEYS that stand nowhere and, put in as own KEYS of the WING, make no stray."""
    known = all_strays(grand, told)
    return [key for key in keys_of(depths) if key not in standing(grand, told)
            and all_strays(grand, with_own(told, name, key)) == known]


class AreWings(unittest.TestCase):

    def expect(self, thing, expected, grand=GRAND, depths=FOUR):
        self.assertIs(wings.are_wings(depths, grand, thing), expected, thing)

    def test_wings(self):
        self.expect(WINGS, True)
        self.expect(WINGS[:1], True)
        for depths, grand, told in small_wings(1, 200):
            self.expect(told, True, grand, depths)
            self.expect(told, True, [list(key) for key in grand], list(depths))

    def test_edges(self):
        self.expect((("a", (), ()),), True)
        self.expect((("a", (), ()), ("abcdefgh", (), ())), True)
        self.expect((("a", (), ()),), True, ())
        self.expect((), False)
        self.expect((("a", ((0, 0, 0),), ()),), True, ())
        self.expect((("a", ((0, 0, 0),), ()),), False)
        self.expect((("a", (), ((0, 0, 0),)),), False)

    def test_beyond_the_bounds(self):
        keys = tuple((a, b, c) for a in range(1, 4) for b in range(4) for c in range(4))
        self.expect((("a", keys[:20], keys[20:]),), True)
        self.expect(tuple((name, keys[at * 3:at * 3 + 1], keys[at * 3 + 1:at * 3 + 3])
                          for at, name in enumerate("abcdefghijklmnop")), True)
        self.expect((("a", keys, ()), ("b", (), ((0, 0, 1),))), True)

    def test_things_of_all_kinds(self):
        for thing in NEVER:
            self.expect(thing, False)
            self.expect((thing,), False)
            self.expect((thing, EAST), False)
            self.expect((EAST, thing), False)
            self.expect(((thing, EAST[1], EAST[2]),), isinstance(thing, str) and thing == "a")
            self.expect((("east", thing, EAST[2]),), False)
            self.expect((("east", EAST[1], thing),), False)
            self.expect((("east", (thing,), EAST[2]),), False)
            self.expect((("east", EAST[1], (thing, *EAST[2])),), False)

    def test_lists(self):
        self.expect([EAST, WEST], False)
        self.expect((list(EAST), WEST), False)
        self.expect((EAST, ("west", [(0, 0, 2)], ())), False)
        self.expect((EAST, ("west", (), [(3, 2, 3)])), False)
        self.expect((EAST, ("west", ([0, 0, 2],), ())), False)
        self.expect((EAST, ("west", (), ([3, 2, 3],))), False)

    def test_bools(self):
        self.expect((("a", ((False, 0, 1),), ()),), False)
        self.expect((("a", (), ((1, 1, True),)),), False)
        self.expect(((True, (), ()),), False)

    def test_names(self):
        for name in ("", "abcdefghi", "East", "e ast", "east1", "\u00e4st", "east\n", None, 1, ("east",)):
            self.expect(((name, (), ()),), False)
        self.expect((("z", (), ()), ("a", (), ())), False)
        self.expect((("a", (), ()), ("a", (), ())), False)
        self.expect((("a", (), ((1, 1, 1),)), ("a", (), ((1, 1, 2),))), False)
        self.expect((WEST, EAST), False)

    def test_other_shapes(self):
        self.expect((("east", EAST[1]),), False)
        self.expect((("east", EAST[1], EAST[2], ()),), False)
        self.expect(((EAST[1], "east", EAST[2]),), False)
        self.expect((("east", EAST[2]), EAST[1]), False)
        self.expect(EAST, False)
        self.expect("east", False)
        self.expect(None, False)

    def test_a_key_at_two_places(self):
        self.expect((EAST, ("west", ((0, 0, 1),), ())), False)
        self.expect((EAST, ("west", (), ((2, 3, 3),))), False)
        self.expect((("east", ((2, 2, 3),), ((2, 2, 3),)),), False)
        self.expect((("east", (), ((2, 2, 3),)), ("west", ((2, 2, 3),), ())), False)
        self.expect((("east", (), ((2, 2, 3), (2, 2, 3))),), False)
        self.expect((("east", ((1, 2, 3), (1, 2, 3)), ()),), False)

    def test_keys(self):
        self.expect((("a", ((0, 0, 4),), ()),), False)
        self.expect((("a", (), ((0, -1, 1),)),), False)
        self.expect((("a", (), ((1, 1),)),), False)
        self.expect((("a", (), ((1, 1, 1, 1),)),), False)
        self.expect((("a", (), ((2, 3, 3), (2, 2, 3))),), False)
        self.expect((("a", ((2, 3, 3), (2, 2, 3)), ()),), False)
        self.expect(WINGS, False, GRAND, (4, 4))
        self.expect(WINGS, False, GRAND, (4, 4, 3))
        self.expect(WINGS, True, GRAND, (5, 9, 4))


class Strays(unittest.TestCase):

    def test_against_listing(self):
        for depths, grand, told in small_wings(2, 400):
            expected = all_strays(grand, told)
            self.assertEqual(wings.strays(grand, told), expected)
            names = tuple(name for name, _, _ in told)
            self.assertEqual(wings.wing_names(told), names)
            strange = [name for _, name, _ in expected]
            self.assertEqual(wings.kept_wings(grand, told), tuple(name for name in names if name not in strange))
            for name, masters, own in told:
                for key in own:
                    door = tuple(tuple(sorted(cuts)) for cuts in door_in(grand, masters, key))
                    self.assertEqual(wings.room_in(grand, told, name, key), door)
            for key in keys_of(depths):
                rooms = tuple((name, room) for name, masters, own in told for room in own
                              if can_open(door_in(grand, masters, room), key))
                self.assertEqual(wings.opened_rooms(grand, told, key), rooms)

    def test_who_makes_strays(self):
        # a grand one and the master of the WING are meant
        self.assertEqual(wings.strays(((1, 1),), (("a", ((0, 1),), ((1, 2),)),)), ())
        # an own KEY of the same WING
        self.assertEqual(wings.strays((), (("a", ((0, 0),), ((0, 1), (1, 1))),)), (((0, 1), "a", (1, 1)),))
        # an own KEY and a master of another WING
        self.assertEqual(wings.strays(((0, 0),), (("a", (), ((1, 1),)), ("b", ((1, 0),), ((0, 1),)))),
                         (((0, 1), "a", (1, 1)), ((1, 0), "a", (1, 1)), ((1, 1), "b", (0, 1))))
        # grand alone makes the ROOMs wide: nobody else opens them
        self.assertEqual(wings.strays(((0, 1), (1, 0)), (("a", (), ((2, 2),)),)), ())
        # a KEY made of the cuts of grand, own in another WING
        self.assertEqual(wings.strays(((0, 1), (1, 0)), (("a", (), ((2, 2),)), ("b", (), ((0, 0),)))),
                         (((0, 0), "a", (2, 2)),))

    def test_kept(self):
        later = wings.with_room(GRAND, WINGS, "west", (2, 2, 1))
        self.assertEqual(wings.kept_wings(GRAND, later), ())
        # what its own KEYS and masters open elsewhere does not count
        told = (("a", ((0, 1),), ((2, 2),)), ("b", (), ((1, 1),)))
        self.assertEqual(wings.strays(((0, 0),), told), (((0, 1), "b", (1, 1)),))
        self.assertEqual(wings.kept_wings(((0, 0),), told), ("a",))
        self.assertEqual(wings.kept_wings((), (("a", (), ()),)), ("a",))

    def test_no_grand_and_no_masters(self):
        told = (("a", (), ((1, 1), (2, 2))), ("b", (), ()))
        self.assertEqual(wings.room_in((), told, "a", (1, 1)), ((1,), (1,)))
        self.assertEqual(wings.opened_rooms((), told, (2, 2)), (("a", (2, 2)),))
        self.assertEqual((wings.strays((), told), wings.kept_wings((), told)), ((), ("a", "b")))
        self.assertEqual(wings.how_many_open_to((3, 3), (), told, "a"), 7)
        self.assertEqual([wings.nth_open_to((3, 3), (), told, "b", number) for number in (0, 4, 6)],
                         [(0, 0), (1, 2), (2, 1)])
        self.assertIs(wings.is_open_to((), told, "b", (1, 2)), True)
        self.assertIs(wings.is_open_to((), told, "b", (1, 1)), False)


class Most(unittest.TestCase):

    def test_against_most_rooms(self):
        for depths, grand, told in small_wings(3, 300):
            for name, masters, own in told:
                common = tuple(sorted((*grand, *masters)))
                if not common:
                    self.assertIsNone(wings.most_in(depths, grand, told, name))
                    self.assertIsNone(wings.share_in(depths, grand, told, name))
                    continue
                self.assertEqual(wings.most_in(depths, grand, told, name), most_rooms(depths, common))
                sizes = rank_sizes(depths, common)
                total = sum((Fraction(1, sizes[how_many_free(common, key)]) for key in own), Fraction(0))
                expected = (total.numerator, total.denominator)
                self.assertEqual(wings.share_in(depths, grand, told, name), expected)

    def test_no_common_keys(self):
        told = (("a", (), ((1, 1),)), ("b", ((0, 0),), ()))
        self.assertEqual([wings.most_in((3, 3), (), told, name) for name in ("a", "b")], [None, 4])
        self.assertEqual([wings.share_in((3, 3), (), told, name) for name in ("a", "b")], [None, (0, 1)])


class OpenTo(unittest.TestCase):

    def hold_against_listing(self, depths, grand, told):
        for name, _, _ in told:
            listed = listed_open(depths, grand, told, name)
            self.assertEqual(wings.how_many_open_to(depths, grand, told, name), len(listed), (depths, grand, told))
            found = [wings.nth_open_to(depths, grand, told, name, number) for number in range(len(listed))]
            self.assertEqual(found, listed)
            for key in keys_of(depths):
                self.assertIs(wings.is_open_to(grand, told, name, key), key in listed)
            for number in (*OUTSIDE, len(listed), len(listed) + 1):
                with self.assertRaises(NoNumber) as caught:
                    wings.nth_open_to(depths, grand, told, name, number)
                self.assertEqual(vars(caught.exception), {"number": number})

    def test_against_listing(self):
        strayed = 0
        for depths, grand, told in small_wings(4, 250):
            strayed += 1 if all_strays(grand, told) else 0
            self.hold_against_listing(depths, grand, told)
        # also WINGS that have strays already
        self.assertGreater(strayed, 30)

    def test_standing_keys_are_not_open(self):
        # a master and a grand KEY of a WING without own KEYS open no ROOM, but stand there
        told = (("a", ((1, 1),), ()), ("b", (), ()))
        self.assertIs(wings.is_open_to(((0, 0),), told, "a", (1, 1)), False)
        self.assertIs(wings.is_open_to(((0, 0),), told, "a", (0, 0)), False)
        self.assertIs(wings.is_open_to(((0, 0),), told, "b", (1, 1)), False)
        self.assertIs(wings.is_open_to(((0, 0),), told, "a", (0, 1)), True)
        self.assertIs(wings.is_open_to([[0, 0]], told, "a", [1, 1]), False)
        self.assertIs(wings.is_open_to([[0, 0]], told, "a", [0, 0]), False)
        self.assertEqual(wings.how_many_open_to((2, 2), ((0, 0),), told, "a"), 2)

    def test_put_in(self):
        for depths, grand, told in small_wings(5, 60):
            known = all_strays(grand, told)
            for name, _, _ in told:
                for key in keys_of(depths):
                    if key in standing(grand, told):
                        continue
                    later = wings.with_room(grand, told, name, key)
                    self.assertEqual(later, with_own(told, name, key))
                    self.assertIs(wings.are_wings(depths, grand, later), True)
                    self.assertIs(wings.is_open_to(grand, told, name, key), wings.strays(grand, later) == known)
                    self.assertEqual(wings.without_room(later, name, key), told)

    def test_great(self):
        draw = Random(150)
        for wide in (2, 3, 20):
            for _ in range(4):
                grand, told = drawn_wings(draw, TWELVE, 3, 6, 3, 10, wide)
                self.assertIs(wings.are_wings(TWELVE, grand, told), True)
                for name, _, _ in told[:2]:
                    self.there_and_back(grand, told, name)

    def drawn_keys(self, draw, cut, many):
        """So many KEYS of cuts 0, of this cut, and of some in which they may be like others."""
        keys = set()
        while len(keys) < many:
            keys.add(tuple(draw.choice((0, 0, cut, 8 + draw.randrange(2))) for _ in range(12)))
        return tuple(sorted(keys))

    def test_as_many_as_can_be(self):
        draw = Random(151)
        for _ in range(3):
            grand = tuple((0,) * at + (7,) + (0,) * (11 - at) for at in (9, 6, 2))
            told = []
            for at, name in enumerate(NAMES):
                keys = self.drawn_keys(draw, 1 + at, 5 if at < 4 else 4)
                own = tuple(sorted(draw.sample(keys, 2 if at < 4 else 1)))
                told.append((name, tuple(key for key in keys if key not in own), own))
            self.assertIs(wings.are_wings(TWELVE, grand, tuple(told)), True)
            counts = [self.there_and_back(grand, tuple(told), name) for name in NAMES]
            self.assertGreater(sum(counts), 10 ** 14)

    def there_and_back(self, grand, told, name):
        many = wings.how_many_open_to(TWELVE, grand, told, name)
        known = all_strays(grand, told)
        found = []
        for number in (0, 1, 98765432109, many // 3, many // 2, many - 1):
            if not 0 <= number < many:
                continue
            key = wings.nth_open_to(TWELVE, grand, told, name, number)
            self.assertIs(wings.is_open_to(grand, told, name, key), True)
            self.assertNotIn(key, standing(grand, told))
            self.assertEqual(all_strays(grand, with_own(told, name, key)), known)
            found.append((number, key))
        self.assertEqual([key for _, key in sorted(found)], sorted(key for _, key in found))
        for number in (-1, -(10 ** 40), many, 10 ** 40):
            with self.assertRaises(NoNumber) as caught:
                wings.nth_open_to(TWELVE, grand, told, name, number)
            self.assertEqual(caught.exception.number, number)
        return many

    def test_counts_by_parts(self):
        draw = Random(152)
        for wide in (2, 3, 4):
            for _ in range(6):
                grand, told = drawn_wings(draw, TWELVE, 1, 2, 1, 4, wide)
                for name, masters, _ in told:
                    meant = (*grand, *masters)
                    boxes = [[{cut} for cut in key] for key in meant]
                    boxes += [door_in(grand, others, key) for _, others, own in told for key in own]
                    # the KEYS whose ROOMs a KEY opens that is not meant for them
                    boxes += [[set(range(20)) if key[pin] in [each[pin] for each in meant] else {key[pin]}
                               for pin in range(12)] for key in standing((), told) if key not in meant]
                    expected = 20 ** 12 - how_many_in_some(boxes) if boxes else 20 ** 12
                    self.assertEqual(wings.how_many_open_to(TWELVE, grand, told, name), expected)

    def test_counts_of_great_ones(self):
        # under (0, .., 0) with an own KEY (1, .., 1) the KEYS of two cuts 0 and 1 alone open its ROOM or are opened
        told = (("a", (), ((1,) * 12,)), ("b", (), ()))
        grand = ((0,) * 12,)
        self.assertEqual(wings.how_many_open_to(TWELVE, grand, told, "a"), 20 ** 12 - 2 ** 12)
        # in b the ROOM of a KEY is opened by (1, .., 1) if all its cuts are 1: it stands already
        self.assertEqual(wings.how_many_open_to(TWELVE, grand, told, "b"), 20 ** 12 - 2 ** 12)
        self.assertEqual(wings.nth_open_to(TWELVE, grand, told, "b", 0), (0,) * 11 + (2,))
        # a master (1, 0, .., 0) of b opens the ROOMs in a of all KEYS with 1 at the first pin
        told = (("a", (), ()), ("b", ((1,) + (0,) * 11,), ()))
        self.assertEqual(wings.how_many_open_to(TWELVE, grand, told, "a"), 20 ** 12 - 20 ** 11 - 1)
        self.assertEqual(wings.how_many_open_to(TWELVE, grand, told, "b"), 20 ** 12 - 2)


class Errors(unittest.TestCase):

    def raises(self, error, values, call, *told):
        with self.assertRaises(error) as caught:
            call(*told)
        self.assertEqual(vars(caught.exception), values)

    def test_no_such_wing(self):
        for name in ("north", "", "eas", "easts"):
            values = {"name": name}
            for key in ((2, 2, 3), (9, 9), (2, 2, 1)):
                self.raises(NoName, values, wings.room_in, GRAND, WINGS, name, key)
                self.raises(NoName, values, wings.without_room, WINGS, name, key)
                self.raises(NoName, values, wings.is_open_to, GRAND, WINGS, name, key)
            self.raises(NoName, values, wings.most_in, FOUR, GRAND, WINGS, name)
            self.raises(NoName, values, wings.share_in, FOUR, GRAND, WINGS, name)
            self.raises(NoName, values, wings.most_in, FOUR, (), (("a", (), ()),), name)
            self.raises(NoName, values, wings.share_in, FOUR, (), (("a", (), ()),), name)
            self.raises(NoName, values, wings.how_many_open_to, FOUR, GRAND, WINGS, name)
            for number in (0, -1, 10 ** 40):
                self.raises(NoName, values, wings.nth_open_to, FOUR, GRAND, WINGS, name, number)
            self.raises(NoName, values, wings.with_room, GRAND, WINGS, name, (2, 2, 1))

    def test_no_such_own_key(self):
        for key in ((2, 2, 2), (0, 0, 1), (0, 0, 0), (3, 2, 3)):
            self.raises(NoKey, {"key": key}, wings.room_in, GRAND, WINGS, "east", key)
            self.raises(NoKey, {"key": key}, wings.without_room, WINGS, "east", key)
            self.raises(NoKey, {"key": key}, wings.room_in, GRAND, WINGS, "east", list(key))
            self.raises(NoKey, {"key": key}, wings.without_room, WINGS, "east", list(key))

    def test_told_as_lists(self):
        grand = [[0, 0, 0]]
        told = [["east", [[0, 0, 1]], [[2, 2, 3], [2, 3, 3]]], ["west", [[0, 0, 2]], [[3, 2, 3]]]]
        before = repr((grand, told))
        self.assertEqual(wings.without_room(told, "east", [2, 2, 3]), (("east", ((0, 0, 1),), ((2, 3, 3),)), WEST))
        self.assertEqual(wings.with_room(grand, told, "west", [2, 2, 1]),
                         (EAST, ("west", ((0, 0, 2),), ((2, 2, 1), (3, 2, 3)))))
        self.assertIs(wings.is_open_to(grand, told, "west", [0, 0, 0]), False)
        self.assertIs(wings.is_open_to(grand, told, "west", [3, 3, 3]), True)
        for result in (wings.room_in(grand, told, "east", [2, 3, 3]), wings.opened_rooms(grand, told, [0, 0, 1]),
                       wings.nth_open_to([4, 4, 4], grand, told, "east", 0), wings.wing_names(told),
                       wings.strays(grand, wings.with_room(grand, told, "west", [2, 2, 1]))):
            self.assertIsInstance(result, tuple)
            self.assertFalse(has_list(result), result)
        self.assertEqual(repr((grand, told)), before)


if __name__ == "__main__":
    unittest.main()

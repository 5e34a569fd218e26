"""Point 13: lost KEYS, held against plain listings of rooms, of sets of NAMEs and of KEYS cut anew."""

import unittest
from itertools import combinations, product
from random import Random

from tests.support import can_open, has_list, keys_of, subsets
from undermasters import lost
from undermasters.errors import NoName
from undermasters.halls import is_hall

LETTERS = "abcdefghijklmnopqrst"


def drawn_hall(draw, depths, many, many_rooms):
    """A HALL of so many people, some of whom may have the same KEY, and of so many rooms."""
    people = tuple((name, tuple(draw.randrange(depth) for depth in depths)) for name in LETTERS[:many])
    rooms = []
    for at in range(many_rooms):
        names = draw.sample(LETTERS[:many], draw.randrange(1, many + 1))
        rooms.append((f"r{LETTERS[at]}", tuple(sorted(names))))
    return (depths, people, tuple(rooms))


def small_halls(seed, times):
    """HALLs of 1 to 4 people with few KEYS, so that many are alike in some cuts."""
    draw = Random(seed)
    for _ in range(times):
        depths = draw.choice(((2,), (3,), (2, 2), (3, 2), (2, 2, 2)))
        yield drawn_hall(draw, depths, draw.randrange(1, 5), draw.randrange(0, 4))


def rooms_of_others(hall, person):
    """For each room that somebody else has the others who have it."""
    found = {}
    for room, names in hall[2]:
        others = [name for name in names if name != person]
        if others:
            found[room] = others
    return found


def opened_with(hall, person, keys):
    """The rooms that the lost KEY opens if their DOORs are pinned for these KEYS of the others who have them."""
    lost_key = dict(hall[1])[person]
    found = []
    for room, others in rooms_of_others(hall, person).items():
        door = [{keys[name][pin] for name in others} for pin in range(len(lost_key))]
        if can_open(door, lost_key):
            found.append(room)
    return tuple(found)


def can_be_shut(hall, person, names):
    """Whether some KEYS for these NAMEs, of all that there are, leave no room to the lost KEY."""
    keys = dict(hall[1])
    for fresh in product(keys_of(hall[0]), repeat=len(names)):
        if opened_with(hall, person, {**keys, **dict(zip(names, fresh))}) == ():
            return True
    return False


def need_not_at(hall, person, names, room, pin):
    """Whether everybody else who has the room and has the cut of the lost KEY at the pin is one of names."""
    keys = dict(hall[1])
    return all(name in names for name in rooms_of_others(hall, person)[room]
               if keys[name][pin] == keys[person][pin])


def first_pins(hall, person, names):
    """What shut_by tells, or None, by what the guarantee says."""
    pins = range(len(hall[0]))
    pairs = []
    for room in rooms_of_others(hall, person):
        shown = [pin for pin in pins if need_not_at(hall, person, names, room, pin)]
        if not shown:
            return None
        if room in opened_with(hall, person, dict(hall[1])):
            pairs.append((room, shown[0]))
    return tuple(pairs)


def others_of(hall, person):
    return [name for name, _ in hall[1] if name != person]


class Small(unittest.TestCase):

    def test_against_listings(self):
        for hall in small_halls(1, 150):
            self.assertIs(is_hall(hall), True)
            for person, _ in hall[1]:
                with self.subTest(hall=hall, person=person):
                    self.hold_against_listings(hall, person)

    def hold_against_listings(self, hall, person):
        others = others_of(hall, person)
        self.assertEqual(lost.still_opens(hall, person), opened_with(hall, person, dict(hall[1])))
        enough = []
        for names in subsets(others, 0, len(others)):
            told = can_be_shut(hall, person, names)
            self.assertIs(lost.is_enough(hall, person, names), told, names)
            self.assertEqual(lost.shut_by(hall, person, names), first_pins(hall, person, names), names)
            touched = [room for room, holders in hall[2] if set(holders) & {person, *names}]
            expected = tuple(room for room in touched if room in rooms_of_others(hall, person))
            self.assertEqual(lost.doors_anew(hall, person, names), expected)
            if told:
                enough.append(names)
        self.assertEqual(lost.fewest_anew(hall, person), min(enough, key=lambda names: (len(names), names)))

    def test_dearest_losses(self):
        for hall in small_halls(2, 150):
            many = {name: len(lost.fewest_anew(hall, name)) for name, _ in hall[1]}
            expected = tuple(name for name in many if many[name] == max(many.values()))
            self.assertEqual(lost.dearest_losses(hall), expected)

    def test_without_person_and_cut_anew(self):
        for hall in small_halls(3, 150):
            if len(hall[1]) < 2:
                continue
            for person, key in hall[1]:
                left = lost.without_person(hall, person)
                self.assertIs(is_hall(left), True)
                self.assertEqual(left[0], hall[0])
                self.assertEqual(left[1], tuple(pair for pair in hall[1] if pair[0] != person))
                self.assertEqual({room: list(names) for room, names in left[2]}, rooms_of_others(hall, person))
                for names in subsets(others_of(hall, person), 0, len(hall[1]) - 1):
                    anew = lost.cut_anew(hall, person, names)
                    self.assertIs(is_hall(anew), True)
                    self.assertEqual((anew[0], anew[2]), (left[0], left[2]))
                    fresh = min(each for each in keys_of(hall[0]) if all(a != b for a, b in zip(each, key)))
                    expected = tuple((name, fresh if name in names else other) for name, other in left[1])
                    self.assertEqual(anew[1], expected)
                    # with these KEYS those who are enough shut out the lost one
                    opened = opened_with(hall, person, {**dict(hall[1]), **dict(anew[1])})
                    self.assertIs(opened == (), lost.is_enough(hall, person, names))


class Edges(unittest.TestCase):

    HALL = ((3, 3), (("ann", (0, 0)), ("bob", (0, 1)), ("cy", (0, 0)), ("dee", (2, 2))),
            (("attic", ("ann",)), ("barn", ("ann", "cy")), ("cell", ("bob",)), ("den", ("ann", "bob", "dee"))))

    def test_somebody_else_has_the_same_key(self):
        self.assertEqual(lost.still_opens(self.HALL, "ann"), ("barn",))
        self.assertEqual(lost.still_opens(self.HALL, "cy"), ("attic", "barn", "den"))
        self.assertEqual(lost.fewest_anew(self.HALL, "ann"), ("cy",))
        self.assertEqual(lost.shut_by(self.HALL, "ann", ("cy",)), (("barn", 0),))
        self.assertEqual(lost.shut_by(self.HALL, "cy", ("ann",)), (("attic", 0), ("barn", 0), ("den", 1)))
        self.assertIsNone(lost.shut_by(self.HALL, "cy", ("bob", "dee")))

    def test_person_without_a_room(self):
        self.assertEqual(lost.without_person(self.HALL, "cy")[2][1], ("barn", ("ann",)))
        hall = (self.HALL[0], self.HALL[1], self.HALL[2][:1] + self.HALL[2][2:])
        self.assertEqual(lost.without_person(hall, "cy")[2], hall[2])
        self.assertEqual(lost.doors_anew(hall, "cy", ()), ())
        self.assertEqual(lost.doors_anew(hall, "cy", ("bob",)), ("cell", "den"))
        self.assertEqual(lost.fewest_anew(hall, "cy"), ("ann",))

    def test_a_room_that_only_this_person_has(self):
        self.assertEqual(lost.without_person(self.HALL, "ann")[2],
                         (("barn", ("cy",)), ("cell", ("bob",)), ("den", ("bob", "dee"))))
        self.assertEqual(lost.doors_anew(self.HALL, "ann", ()), ("barn", "den"))
        self.assertNotIn("attic", lost.still_opens(self.HALL, "ann"))
        self.assertEqual(lost.doors_anew(self.HALL, "bob", ()), ("den",))

    def test_all_others(self):
        for person in ("ann", "bob", "cy", "dee"):
            names = tuple(others_of(self.HALL, person))
            self.assertIs(lost.is_enough(self.HALL, person, names), True)
            rooms = lost.without_person(self.HALL, person)[2]
            self.assertEqual(lost.doors_anew(self.HALL, person, names), tuple(room for room, _ in rooms))

    def test_one_person(self):
        hall = ((2,), (("ann", (1,)),), (("den", ("ann",)),))
        self.assertEqual((lost.still_opens(hall, "ann"), lost.is_enough(hall, "ann", ())), ((), True))
        self.assertEqual((lost.shut_by(hall, "ann", ()), lost.fewest_anew(hall, "ann")), ((), ()))
        self.assertEqual((lost.dearest_losses(hall), lost.doors_anew(hall, "ann", ())), (("ann",), ()))

    def test_no_rooms(self):
        hall = (self.HALL[0], self.HALL[1], ())
        self.assertEqual(lost.dearest_losses(hall), ("ann", "bob", "cy", "dee"))
        self.assertEqual((lost.fewest_anew(hall, "ann"), lost.shut_by(hall, "ann", ("bob",))), ((), ()))
        self.assertEqual(lost.without_person(hall, "dee"), (hall[0], hall[1][:3], ()))

    def test_several_that_are_as_few(self):
        # each other one alone is enough: the least one
        people = tuple((name, key) for name, key in zip("abcd", ((0, 0, 0), (0, 1, 1), (1, 0, 1), (1, 1, 0))))
        hall = ((2, 2, 2), people, (("den", ("b", "c", "d")),))
        self.assertEqual(lost.fewest_anew(hall, "a"), ("b",))
        self.assertIs(lost.is_enough(hall, "a", ("c",)), True)
        # two are wanted, b and d or c and d: both rooms have d, and each one another one with the lost cut, too
        people = (("a", (0, 0)), ("b", (0, 1)), ("c", (1, 0)), ("d", (0, 0)))
        hall = ((2, 2), people, (("den", ("b", "c", "d")), ("hut", ("d",))))
        self.assertEqual(lost.fewest_anew(hall, "a"), ("b", "d"))
        self.assertIs(lost.is_enough(hall, "a", ("c", "d")), True)
        self.assertIs(lost.is_enough(hall, "a", ("b", "c")), False)

    def test_dearest_of_several(self):
        hall = ((2,), (("a", (0,)), ("b", (0,)), ("c", (0,)), ("d", (1,))), (("r", ("a", "b", "c")), ("s", ("d",))))
        self.assertEqual(lost.dearest_losses(hall), ("a", "b", "c"))
        self.assertEqual(lost.fewest_anew(hall, "b"), ("a", "c"))

    def test_cut_anew_takes_the_least_cuts(self):
        hall = ((5, 2, 3), (("a", (0, 1, 2)), ("b", (4, 1, 2)), ("c", (0, 0, 0))), (("r", ("a", "b")),))
        self.assertEqual(lost.cut_anew(hall, "a", ("b",)),
                         ((5, 2, 3), (("b", (1, 0, 0)), ("c", (0, 0, 0))), (("r", ("b",)),)))
        self.assertEqual(lost.cut_anew(hall, "c", ("a", "b"))[1], (("a", (1, 1, 1)), ("b", (1, 1, 1))))
        self.assertEqual(lost.cut_anew(hall, "b", ()), lost.without_person(hall, "b"))

    def test_no_such_person(self):
        for call in (lost.without_person, lost.still_opens, lost.fewest_anew):
            for name in ("eve", "den", ""):
                with self.assertRaises(NoName) as caught:
                    call(self.HALL, name)
                self.assertEqual(vars(caught.exception), {"name": name})

    def test_no_such_names(self):
        for call in (lost.is_enough, lost.shut_by, lost.doors_anew, lost.cut_anew):
            for person, names, name in (("eve", (), "eve"), ("eve", ("fay",), "eve"), ("den", ("ann",), "den"),
                                        ("ann", ("eve",), "eve"), ("ann", ("bob", "eve", "fay"), "eve"),
                                        ("ann", ("ann",), "ann"), ("bob", ("ann", "bob", "eve"), "bob"),
                                        ("ann", ("attic", "zoe"), "attic")):
                with self.assertRaises(NoName) as caught:
                    call(self.HALL, person, names)
                self.assertEqual(vars(caught.exception), {"name": name})

    def test_told_as_lists(self):
        hall = [[3, 3], [["ann", [0, 0]], ["bob", [0, 1]], ["cy", [0, 0]]], [["barn", ["ann", "cy"]]]]
        before = repr(hall)
        self.assertEqual(lost.without_person(hall, "ann"),
                         ((3, 3), (("bob", (0, 1)), ("cy", (0, 0))), (("barn", ("cy",)),)))
        self.assertEqual(lost.cut_anew(hall, "ann", ["cy"])[1], (("bob", (0, 1)), ("cy", (1, 1))))
        for result in (lost.still_opens(hall, "ann"), lost.shut_by(hall, "ann", ["cy"]), lost.fewest_anew(hall, "ann"),
                       lost.dearest_losses(hall), lost.doors_anew(hall, "ann", ["cy"])):
            self.assertIsInstance(result, tuple)
            self.assertFalse(has_list(result), result)
        self.assertEqual(repr(hall), before)


class Great(unittest.TestCase):

    def fewest_by_listing(self, hall, person):
        for many in range(len(hall[1])):
            for names in combinations(others_of(hall, person), many):
                if first_pins(hall, person, names) is not None:
                    return names

    def test_twelve_people(self):
        draw = Random(12)
        for _ in range(12):
            depths = draw.choice(((2,) * 12, (3,) * 6, (20,) * 12))
            hall = drawn_hall(draw, depths, 12, 20)
            if depths[0] == 20:
                # KEYS that have at most pins the cut 0
                keys = [tuple(draw.choice((0, 0, 1)) for _ in depths) for _ in range(12)]
                hall = (depths, tuple(zip(LETTERS[:12], keys)), hall[2])
            self.assertIs(is_hall(hall), True)
            for person in ("a", "g"):
                self.assertEqual(lost.fewest_anew(hall, person), self.fewest_by_listing(hall, person))

    def test_eight_people(self):
        draw = Random(8)
        for _ in range(6):
            hall = drawn_hall(draw, (2,) * 5, 8, 12)
            many = {name: len(self.fewest_by_listing(hall, name)) for name, _ in hall[1]}
            self.assertEqual(lost.dearest_losses(hall), tuple(n for n in many if many[n] == max(many.values())))

    def test_twenty_people(self):
        draw = Random(20)
        hall = drawn_hall(draw, (20,) * 12, 20, 20)
        for person, key in hall[1]:
            others = tuple(others_of(hall, person))
            self.assertIs(lost.is_enough(hall, person, others), True)
            anew = lost.cut_anew(hall, person, others)
            self.assertEqual({fresh for _, fresh in anew[1]}, {tuple(1 if cut == 0 else 0 for cut in key)})
            self.assertEqual(lost.shut_by(hall, person, ()), first_pins(hall, person, ()))


if __name__ == "__main__":
    unittest.main()

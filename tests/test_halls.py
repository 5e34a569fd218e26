"""Point 6: HALLs, held against plain listings, wrong things of all kinds, and great ones."""

import unittest
from random import Random

from tests.support import NEVER, as_lists, can_open, has_list, inner_lists, mixed_lists, outer_list, subsets
from undermasters import halls
from undermasters.errors import NoName

PEOPLE = (("ann", (0, 0)), ("bob", (1, 2)), ("cy", (0, 2)), ("dee", (2, 1)))
ROOMS = (("attic", ("ann", "bob")), ("den", ("cy",)), ("hut", ("bob", "cy", "dee")))
HALL = ((3, 3), PEOPLE, ROOMS)

WRONG_NAMES = (
    "", "abcdefghi", "Ann", "aNn", "anN", "an n", " ann", "ann ", "a1", "1", "a-b", "a_b", "\u00e4nn", "an\u0131",
    "ann\n", "{", "`", "@", "[",
)


def drawn_hall(draw, most_people, most_rooms):
    """A HALL of a few people and rooms; also people with the same KEY, or who are nowhere, and no rooms at all."""
    depths = tuple(draw.choice((2, 3, 4)) for _ in range(draw.choice((1, 2, 3))))
    names = sorted(draw.sample(["al", "bo", "cy", "di", "ed", "fy", "gus"], draw.randint(1, most_people)))
    people = tuple((name, tuple(draw.randrange(depth) for depth in depths)) for name in names)
    rooms = sorted(draw.sample(["al", "den", "hut", "loft", "z"], draw.randint(0, most_rooms)))
    holders = [tuple(sorted(draw.sample(names, draw.randint(1, len(names))))) for _ in rooms]
    return (depths, people, tuple(zip(rooms, holders)))


def drawn_halls(many, most_people=5, most_rooms=4):
    draw = Random(6)
    return [drawn_hall(draw, most_people, most_rooms) for _ in range(many)]


def pinned(hall, names):
    """For each pin the ascending cuts of the people with these NAMEs."""
    keys = [key for name, key in hall[1] if name in names]
    return tuple(tuple(sorted({key[pin] for key in keys})) for pin in range(len(hall[0])))


def all_who_open(hall, names):
    return tuple(name for name, key in hall[1] if can_open(pinned(hall, names), key))


def strange_pairs(hall):
    return tuple(sorted((name, room) for room, names in hall[2] for name in all_who_open(hall, names)
                        if name not in names))


def closed_sets(hall):
    """All sets of NAMEs, not (), whose DOOR opens for nobody else."""
    names = [name for name, _ in hall[1]]
    return [some for some in subsets(names, 1, len(names)) if all_who_open(hall, some) == some]


class IsHall(unittest.TestCase):

    def expect(self, thing, expected):
        self.assertIs(halls.is_hall(thing), expected, thing)

    def test_halls(self):
        self.expect(HALL, True)
        for hall in drawn_halls(100):
            self.expect(hall, True)

    def test_edges(self):
        self.expect(((2,), (("a", (0,)),), ()), True)
        self.expect(((2,), (("abcdefgh", (1,)),), (("zzzzzzzz", ("abcdefgh",)),)), True)
        # a KEY can stand twice, people can be nowhere, a room can have the NAME of a person
        self.expect(((3, 3), (("a", (1, 1)), ("b", (1, 1)), ("c", (0, 0))), (("a", ("b",)),)), True)
        self.expect(((3, 3), (), ()), False)
        self.expect(((3, 3), (), ROOMS), False)
        self.expect(((3, 3), PEOPLE, ()), True)

    def test_beyond_the_bounds(self):
        names = tuple("a" + chr(97 + at // 26) + chr(97 + at % 26) for at in range(60))
        depths = (10 ** 6,) * 41
        people = tuple((name, (10 ** 6 - 1 - at,) * 41) for at, name in enumerate(names))
        rooms = tuple((name, names) for name in names)
        self.expect((depths, people, rooms), True)
        self.expect((depths, people, (*rooms[:-1], (names[-1], (*names[:-1], "no")))), False)

    def test_each_kind_at_each_place(self):
        for thing in (*NEVER, (), "ann"):
            self.expect(thing, False)
            self.expect((thing, PEOPLE, ROOMS), False)
            self.expect((HALL[0], thing, ROOMS), False)
            self.expect((HALL[0], thing, ()), False)
            self.expect((HALL[0], (thing,), ()), False)
            self.expect((HALL[0], (("ann", thing),), ()), False)
            self.expect((HALL[0], PEOPLE, (thing,)), False)
            self.expect((HALL[0], PEOPLE, (("hut", thing),)), False)
            if thing != ():
                self.expect((HALL[0], PEOPLE, thing), False)
            if thing not in ("a", "ann"):
                self.expect((HALL[0], ((thing, (0, 0)),), ()), False)
                self.expect((HALL[0], PEOPLE, ((thing, ("ann",)),)), False)
            if thing != "ann":
                self.expect((HALL[0], PEOPLE, (("hut", (thing,)),)), False)
                self.expect((HALL[0], PEOPLE, (("hut", ("ann", thing)),)), False)

    def test_names(self):
        for name in WRONG_NAMES:
            self.expect((HALL[0], ((name, (0, 0)),), ()), False)
            self.expect((HALL[0], ((name, (0, 0)),), (("hut", (name,)),)), False)
            self.expect((HALL[0], PEOPLE, ((name, ("ann",)),)), False)
            self.expect((HALL[0], PEOPLE, (("hut", (name,)),)), False)

    def test_order_and_names_twice(self):
        self.expect((HALL[0], PEOPLE[::-1], ROOMS), False)
        self.expect((HALL[0], (PEOPLE[1], PEOPLE[0], *PEOPLE[2:]), ROOMS), False)
        self.expect((HALL[0], (PEOPLE[0], PEOPLE[0], *PEOPLE[1:]), ROOMS), False)
        self.expect((HALL[0], (("ann", (0, 0)), ("ann", (0, 1))), ()), False)
        self.expect((HALL[0], PEOPLE, ROOMS[::-1]), False)
        self.expect((HALL[0], PEOPLE, (ROOMS[0], ROOMS[0])), False)
        self.expect((HALL[0], PEOPLE, (("den", ("ann",)), ("den", ("bob",)))), False)
        self.expect((HALL[0], PEOPLE, (("den", ("bob", "ann")),)), False)
        self.expect((HALL[0], PEOPLE, (("den", ("ann", "ann")),)), False)

    def test_rooms_of_nobody(self):
        self.expect((HALL[0], PEOPLE, (("den", ()),)), False)
        self.expect((HALL[0], PEOPLE, (("den", ("eve",)),)), False)
        self.expect((HALL[0], PEOPLE, (("den", ("ann", "eve")),)), False)
        self.expect((HALL[0], PEOPLE, (("den", ("den",)),)), False)
        self.expect((HALL[0], PEOPLE, (("den", "ann"),)), False)

    def test_keys_of_other_depths(self):
        for key in ((0,), (0, 0, 0), (0, 3), (3, 0), (-1, 0), (0, True), (False, 0), [0, 0], (0, None), "00", ()):
            self.expect((HALL[0], (("ann", key), *PEOPLE[1:]), ROOMS), False)
            self.expect((HALL[0], (*PEOPLE[:-1], ("dee", key)), ROOMS), False)
        for depths in ((3,), (3, 3, 3), (3, 2), (2, 3), (3, 1), (), [3, 3], (3, True)):
            self.expect((depths, PEOPLE, ROOMS), False)

    def test_lengths(self):
        self.expect((*HALL, ()), False)
        self.expect(HALL[:2], False)
        self.expect((HALL,), False)
        self.expect((HALL[0], (("ann",), *PEOPLE[1:]), ROOMS), False)
        self.expect((HALL[0], (("ann", (0, 0), ()), *PEOPLE[1:]), ROOMS), False)
        self.expect((HALL[0], PEOPLE, (("den",),)), False)
        self.expect((HALL[0], PEOPLE, (("den", ("ann",), ("bob",)),)), False)

    def test_lists(self):
        for form in (as_lists, outer_list, inner_lists, mixed_lists):
            self.expect(form(HALL), False)
            for at in range(3):
                thing = tuple(form(part) if place == at else part for place, part in enumerate(HALL))
                self.expect(thing, thing == HALL)
        self.expect((HALL[0], (["ann", (0, 0)], *PEOPLE[1:]), ROOMS), False)
        self.expect((HALL[0], PEOPLE, (["attic", ("ann",)],)), False)
        self.expect((HALL[0], PEOPLE, (("attic", ["ann"]),)), False)


class Openers(unittest.TestCase):

    def test_against_listing(self):
        for hall in drawn_halls(400):
            pairs = strange_pairs(hall)
            self.assertEqual(halls.strange(hall), pairs)
            self.assertIs(halls.is_kept(hall), not pairs)
            for room, names in hall[2]:
                self.assertEqual(halls.door_of(hall, room), pinned(hall, names))
                self.assertEqual(halls.who_opens(hall, room), all_who_open(hall, names))
                self.assertEqual(halls.strangers(hall, room), tuple(name for name, at in pairs if at == room))
            for person, key in hall[1]:
                opened = tuple(room for room, names in hall[2] if can_open(pinned(hall, names), key))
                self.assertEqual(halls.rooms_of(hall, person), opened)

    def test_with_person(self):
        for hall in drawn_halls(150):
            for person, _ in hall[1]:
                for room, _ in hall[2]:
                    rooms = tuple((name, tuple(sorted({*names, person})) if name == room else names)
                                  for name, names in hall[2])
                    expected = (hall[0], hall[1], rooms)
                    self.assertEqual(halls.with_person(hall, person, room), expected)
                    self.assertIs(halls.is_hall(halls.with_person(as_lists(hall), person, room)), True)
                    fresh = tuple(pair for pair in strange_pairs(expected) if pair not in strange_pairs(hall))
                    self.assertEqual(halls.new_strangers(hall, person, room), fresh)

    def test_a_stranger_who_gets_the_room(self):
        hall = halls.with_person(HALL, "cy", "attic")
        self.assertEqual((halls.strange(HALL), halls.strange(hall)), ((("cy", "attic"),), ()))
        self.assertEqual(halls.new_strangers(HALL, "cy", "attic"), ())
        self.assertEqual(halls.with_person(hall, "cy", "attic"), hall)

    def test_without_rooms(self):
        hall = ((3, 3), PEOPLE, ())
        self.assertEqual((halls.strange(hall), halls.is_kept(hall), halls.rooms_of(hall, "ann")), ((), True, ()))


class Closed(unittest.TestCase):

    def test_guarantee(self):
        for hall in drawn_halls(150):
            names = [name for name, _ in hall[1]]
            closed = closed_sets(hall)
            self.assertEqual(halls.how_many_closed(hall), len(closed))
            for some in subsets(names, 1, len(names)):
                around = [each for each in closed if set(some) <= set(each)]
                least = [each for each in around if all(set(each) <= set(other) for other in around)]
                self.assertEqual([halls.closure(hall, some)], least)
                self.assertIs(halls.is_closed(hall, some), some in closed)
                self.assertIs(halls.is_closed(hall, list(some)), some in closed)

    def test_more_people(self):
        for hall in drawn_halls(40, 7, 0):
            self.assertEqual(halls.how_many_closed(hall), len(closed_sets(hall)))

    def test_ten_people(self):
        names = "abcdefghij"
        apart = tuple((name, (at, 0)) for at, name in enumerate(names))
        self.assertEqual(halls.how_many_closed(((20, 2), apart, ())), 2 ** 10 - 1)
        same = tuple((name, (7, 1)) for name in names)
        self.assertEqual(halls.how_many_closed(((20, 2), same, ())), 1)
        twins = tuple((name, (at // 2,)) for at, name in enumerate(names))
        self.assertEqual(halls.how_many_closed(((20,), twins, ())), 2 ** 5 - 1)
        wide = tuple((name, (at,) * 12) for at, name in enumerate(names))
        self.assertEqual(halls.how_many_closed(((20,) * 12, wide, ())), 2 ** 10 - 1)
        draw = Random(10)
        drawn = tuple((name, tuple(draw.randrange(2) for _ in range(12))) for name in names)
        self.assertEqual(halls.how_many_closed(((2,) * 12, drawn, ())), len(closed_sets(((2,) * 12, drawn, ()))))


class NoNames(unittest.TestCase):

    def expect(self, name, function, *told):
        with self.assertRaises(NoName) as caught:
            function(*told)
        self.assertEqual(vars(caught.exception), {"name": name}, (function, told))

    def test_rooms(self):
        for function in (halls.door_of, halls.who_opens, halls.strangers):
            for name in ("loft", "ann", "z", "a"):
                self.expect(name, function, HALL, name)
                self.expect(name, function, as_lists(HALL), name)
                self.expect(name, function, (HALL[0], PEOPLE, ()), name)

    def test_people(self):
        for name in ("eve", "den", "a", "zoe"):
            self.expect(name, halls.rooms_of, HALL, name)
            self.expect(name, halls.rooms_of, (HALL[0], PEOPLE, ()), name)

    def test_person_ahead_of_room(self):
        for function in (halls.with_person, halls.new_strangers):
            self.expect("eve", function, HALL, "eve", "den")
            self.expect("loft", function, HALL, "ann", "loft")
            self.expect("eve", function, HALL, "eve", "loft")
            self.expect("den", function, HALL, "den", "ann")
            self.expect("zoe", function, HALL, "zoe", "a")

    def test_the_first_of_several(self):
        for function in (halls.closure, halls.is_closed):
            self.expect("eve", function, HALL, ("eve",))
            self.expect("eve", function, HALL, ("eve", "fay"))
            self.expect("bea", function, HALL, ("ann", "bea", "cy", "eve"))
            self.expect("zoe", function, HALL, ["ann", "bob", "cy", "dee", "zoe"])
            self.expect("den", function, HALL, ("ann", "den", "hut"))


class Great(unittest.TestCase):

    def test_twenty_people(self):
        draw = Random(20)
        names = tuple("p" + chr(97 + at) for at in range(20))
        people = tuple((name, tuple(draw.randrange(20) for _ in range(12))) for name in names)
        rooms = tuple(("r" + chr(97 + at), tuple(sorted(draw.sample(names, 1 + at % 20)))) for at in range(20))
        hall = ((20,) * 12, people, rooms)
        self.assertIs(halls.is_hall(hall), True)
        self.assertEqual(halls.strange(hall), strange_pairs(hall))
        for room, held in rooms:
            self.assertEqual(halls.who_opens(hall, room), all_who_open(hall, held))
            self.assertEqual(halls.closure(hall, held), all_who_open(hall, held))
        self.assertEqual(halls.closure(hall, names), names)

    def test_results_are_tuples(self):
        told = as_lists(HALL)
        results = (
            halls.with_person(told, "dee", "den"), halls.door_of(told, "hut"), halls.strange(told),
            halls.closure(told, ["ann", "bob"]), halls.new_strangers(told, "dee", "attic"), halls.who_opens(told, "hut"),
            halls.strangers(told, "attic"), halls.rooms_of(told, "cy"),
        )
        for result in results:
            self.assertIsInstance(result, tuple)
            self.assertFalse(has_list(result), result)
        self.assertEqual(told, as_lists(HALL))


if __name__ == "__main__":
    unittest.main()

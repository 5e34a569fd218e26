"""Points 1 to 3 over the whole program: sections beside each other, guarantees on small houses, and great ones."""

import ast
import doctest
import unittest
from fractions import Fraction
from itertools import product
from pathlib import Path
from random import Random

from tests.support import HOUSES, are_quiet, greatest_quiet, keys_of, lets, subsets
from tests.test_more import drawn_house
from undermasters import changes, commons, covers, cuts, doors, halls, lost, more, most, private, quiet, texts, wings, worn
from undermasters.board import Board
from undermasters.desk import replies
from undermasters.errors import NotQuiet, Twice

TOP = Path(__file__).resolve().parent.parent
TWELVE = (20,) * 12


def longest_opener_row(common, keys):
    """How many of the unlike KEYS can stand so that each one opens the ROOM of the next one."""
    longest = {}
    for key in sorted(keys, key=lambda each: cuts.rank(common, each)):
        longest[key] = 1 + max([longest[each] for each in longest if lets(common, each, key)], default=0)
    return max(longest.values(), default=0)


class Guarantees(unittest.TestCase):

    def test_at_most_as_many_as_the_greatest_coefficient(self):
        for depths, common in HOUSES:
            greatest = greatest_quiet(common, keys_of(depths))
            self.assertEqual({len(some) for some in greatest}, {most.most_rooms(depths, common)})
            for free in most.best_ranks(depths, common):
                self.assertTrue(are_quiet(common, most.rank_rooms(depths, common, free)))
                self.assertEqual(len(most.rank_rooms(depths, common, free)), most.most_rooms(depths, common))

    def test_each_quiet_choice_has_a_share_of_at_most_1(self):
        for depths, common in HOUSES:
            for own in subsets(keys_of(depths), 0, 4):
                if are_quiet(common, own):
                    top, bottom = quiet.share(depths, common, own)
                    self.assertLessEqual(top, bottom)
                    left = [some for some in self.further_choices(depths, common, own)]
                    self.assertLessEqual(max(len(some) for some in left), quiet.most_more(depths, common, own))

    def further_choices(self, depths, common, own):
        """For some further KEYS to begin with, what can be put in one behind another."""
        listed = [more.nth_further(depths, common, own, number)
                  for number in range(more.how_many_further(depths, common, own))]
        yield ()
        for first in listed[:2]:
            chosen = [first]
            for key in listed:
                if key not in chosen and are_quiet(common, (*own, *chosen, key)):
                    chosen.append(key)
            yield chosen

    def test_without_long_rows(self):
        for depths, common in HOUSES:
            unlike = list({cuts.row_of(common, key): key for key in keys_of(depths)}.values())
            if len(unlike) > 9:
                continue
            for many in (1, 2, 3):
                found = max(len(some) for some in subsets(unlike, 0, len(unlike))
                            if longest_opener_row(common, some) <= many)
                self.assertEqual(most.most_without_rows(depths, common, many), found)

    def test_covers_are_the_fewest(self):
        draw = Random(1)
        for depths, common in HOUSES:
            keys = keys_of(depths)
            for _ in range(10):
                some = tuple(sorted(draw.sample(keys, draw.randrange(len(keys) + 1))))
                self.assertEqual(len(covers.cover_rows(common, some)), len(greatest_quiet(common, some)[0]))
                self.assertEqual(len(covers.quiet_cover(common, some)),
                                 len(covers.longest_row(common, some)) if some else 0)

    def test_private_rooms(self):
        for depths, common in HOUSES:
            for own in subsets(keys_of(depths), 0, 2):
                if are_quiet(common, own):
                    hidden = tuple(private.nth_harmless(depths, common, own, number)
                                   for number in range(private.how_many_harmless(depths, common, own)))
                    self.assertIs(private.is_house_closed(depths, common, own, hidden), True)

    def test_worn(self):
        for depths, common in HOUSES:
            for wear in product((0, 1), repeat=len(depths)):
                keys = keys_of(depths)
                sizes = worn.worn_sizes(depths, common, wear)
                for some in subsets(keys, 0, 3):
                    if worn.is_worn_quiet(common, wear, some):
                        total = sum(Fraction(1, sizes[worn.worn_rank(common, wear, key)]) for key in some)
                        self.assertLessEqual(total, 1)

    def test_a_further_common_key_never_makes_more_rooms(self):
        for depths, common in HOUSES:
            for key in keys_of(depths):
                self.assertGreaterEqual(commons.cost_of(depths, common, key), 0)


class Beside(unittest.TestCase):

    def test_worn_by_nothing_is_not_worn(self):
        for depths, common in HOUSES:
            zero = (0,) * len(depths)
            self.assertEqual(worn.worn_sizes(depths, common, zero), most.rank_sizes(depths, common))
            for one, other in product(keys_of(depths), repeat=2):
                self.assertIs(worn.opens_worn(common, zero, one, other), cuts.opens_room(common, one, other))

    def test_next_keys_are_the_further_ones(self):
        for depths, common in HOUSES:
            for own in subsets(keys_of(depths), 0, 1):
                found, number = [], -1
                while changes.next_key(depths, common, own, number) is not None:
                    found.append(changes.next_key(depths, common, own, number))
                    number = cuts.number_of_key(depths, found[-1]) + 1
                listed = [more.nth_further(depths, common, own, at)
                          for at in range(more.how_many_further(depths, common, own))]
                self.assertEqual(found, listed)
                self.assertEqual(changes.room_more(depths, common, own), listed[0] if listed else None)

    def test_a_house_of_one_wing(self):
        # grand are the COMMON KEYS, at most 3
        for depths, common in HOUSES:
            for own in subsets(keys_of(depths), 0, 2):
                if set(own) & set(common):
                    continue
                told = (("all", (), own),)
                self.assertIs(wings.are_wings(depths, common, told), True)
                self.assertEqual(wings.strays(common, told),
                                 tuple((one, "all", other) for one, other in quiet.clashes(depths, common, own)))
                self.assertEqual(wings.most_in(depths, common, told, "all"), most.most_rooms(depths, common))
                self.assertEqual(wings.share_in(depths, common, told, "all"), quiet.share(depths, common, own))
                for key in keys_of(depths):
                    self.assertEqual(wings.opened_rooms(common, told, key),
                                     tuple(("all", each) for each in cuts.opened_by(common, own, key)))
                if are_quiet(common, own):
                    further = more.how_many_further(depths, common, own)
                    standing = [key for key in common if more.is_further(depths, common, own, key)]
                    self.assertEqual(wings.how_many_open_to(depths, common, told, "all"), further - len(standing))

    def test_fit_is_quiet_under_one_common_key(self):
        for depths, _ in HOUSES:
            for own in subsets(keys_of(depths), 2, 2):
                for key in keys_of(depths):
                    self.assertIs(commons.is_fit(own, key), quiet.is_quiet(depths, (key,), own))
                    self.assertEqual(commons.unfit_pair(own, key), cuts.clash((key,), own))

    def test_rooms_are_doors(self):
        for depths, common in HOUSES:
            for one, other in product(keys_of(depths), repeat=2):
                door = doors.door_for((*common, other))
                self.assertIs(doors.opens(door, one), cuts.opens_room(common, one, other))
                self.assertEqual(texts.door_read(texts.door_text(door)), door)

    def test_a_lost_key_in_a_hall(self):
        people = (("al", (0, 0)), ("bo", (0, 1)), ("cy", (1, 0)), ("di", (2, 1)))
        hall = ((3, 3), people, (("r", ("al", "bo")), ("s", ("bo", "cy")), ("t", ("cy", "di")), ("u", ("al",))))
        for name, key in people:
            left = lost.without_person(hall, name)
            self.assertIs(halls.is_hall(left), True)
            opened = tuple(room for room, _ in left[2] if doors.opens(halls.door_of(left, room), key))
            self.assertEqual(lost.still_opens(hall, name), opened)
            anew = lost.cut_anew(hall, name, lost.fewest_anew(hall, name))
            self.assertEqual([room for room, _ in anew[2] if doors.opens(halls.door_of(anew, room), key)], [])

    def test_changed_alike(self):
        for depths, common in HOUSES:
            pins = tuple(range(len(depths)))[::-1]
            turned = tuple(depths[pin] for pin in pins)
            masters = changes.reordered(common, pins)
            self.assertEqual(most.rank_sizes(turned, masters), most.rank_sizes(depths, common))
            longer = (*depths, 4)
            self.assertEqual(most.most_rooms(longer, changes.with_pin(common, len(depths), 0)),
                             most.most_rooms(depths, common) + most.one_more_pin(depths, common, 4))
            for own in subsets(keys_of(depths), 0, 2):
                if own and are_quiet(common, own):
                    owners = changes.reordered(own, pins)
                    self.assertEqual(more.how_many_further(turned, masters, owners),
                                     more.how_many_further(depths, common, own))
                    self.assertEqual(quiet.share(turned, masters, owners), quiet.share(depths, common, own))

    def test_a_board_its_desk_and_its_text(self):
        draw = Random(2)
        for depths, common in HOUSES:
            board, lines, expected = Board(depths, common), [], []
            for key in draw.sample(keys_of(depths), min(20, len(keys_of(depths)))):
                lines.append(f"put {texts.key_text(key)}")
                try:
                    board.put(key)
                    expected.append("done")
                except (NotQuiet, Twice) as error:
                    expected.append(f"refused {type(error).__name__}")
            self.assertTrue(are_quiet(common, board.own()))
            self.assertEqual(replies(depths, common, "\n".join([*lines, "own", "more"])),
                             [*expected, texts.keys_text(board.own()), str(board.most_more())])
            plan = texts.plan_text(board.depths(), board.common(), board.own())
            self.assertEqual(texts.plan_read(plan), (depths, common, board.own()))
            if len(board) <= 8:
                self.assertIs(quiet.is_full(depths, common, board.own()),
                              changes.room_more(depths, common, board.own()) is None)

    def test_put_in_what_goes_until_nothing_does(self):
        for depths, common in HOUSES:
            board = Board(depths, common)
            while changes.room_more(depths, common, board.own()) is not None:
                board.put(changes.room_more(depths, common, board.own()))
            self.assertIs(quiet.is_full(depths, common, board.own()), True)
            self.assertLessEqual(len(board), most.most_rooms(depths, common))


class Great(unittest.TestCase):

    def test_a_great_house(self):
        draw = Random(3)
        common, own = drawn_house(draw, 12, 20, 8)
        board = Board(TWELVE, common)
        for key in own:
            board.put(key)
        self.assertEqual(board.share(), quiet.share(TWELVE, common, own))
        key = changes.next_key(TWELVE, common, own, 20 ** 11)
        board.put(key)
        self.assertEqual(len(board), 9)
        board.undo()
        for gone in own:
            fresh = changes.nearest_key(TWELVE, common, own, gone)
            board.change(gone, fresh)
            self.assertTrue(are_quiet(common, board.own()))
            board.undo()
        self.assertEqual(board.own(), own)
        many = more.how_many_further(TWELVE, common, own)
        self.assertGreaterEqual(private.how_many_harmless(TWELVE, common, own) + len(common), many)
        self.assertEqual(texts.plan_read(texts.plan_text(TWELVE, common, own)), (TWELVE, common, own))

    def test_what_is_returned_can_be_passed_in_again(self):
        # greater and longer than any bound
        sizes = most.rank_sizes((10 ** 6,) * 40, ((0,) * 40,))
        self.assertEqual(quiet.share_of_ranks((10 ** 6,) * 40, ((0,) * 40,), sizes), (41, 1))
        rooms = most.rank_rooms((2,) * 11, ((0,) * 11,), 5)
        self.assertEqual(len(rooms), 462)
        self.assertIs(quiet.is_greatest((2,) * 11, ((0,) * 11,), rooms), True)
        self.assertEqual(texts.keys_read(texts.keys_text(rooms)), rooms)
        self.assertEqual(len(changes.recut(rooms, 0, (1, 0))), 462)


class Form(unittest.TestCase):

    def test_no_clock_no_randomness_no_files(self):
        for path in sorted((TOP / "undermasters").glob("*.py")):
            for node in ast.walk(ast.parse(path.read_text(encoding="ascii"))):
                self.assertNotIsInstance(node, ast.Import, path.name)
                if isinstance(node, ast.ImportFrom):
                    self.assertIn(node.module.split(".")[0], ("undermasters", "math", "heapq", "itertools"), path.name)

    def test_examples_of_the_readme(self):
        failed, tried = doctest.testfile(str(TOP / "README.md"), module_relative=False)
        self.assertEqual(failed, 0)
        self.assertGreater(tried, 10)

    def test_files_that_the_readme_names(self):
        readme = (TOP / "README.md").read_text(encoding="ascii")
        for path in sorted((TOP / "undermasters").glob("*.py")):
            if path.name != "__init__.py":
                self.assertIn(f"`undermasters/{path.name}`", readme)


if __name__ == "__main__":
    unittest.main()

"""Point 17: Boards, each deed with each of its errors, undo, twins, equality, and great ones."""

import unittest
from itertools import product
from random import Random

from tests.support import HOUSES, are_quiet, as_lists, has_list, keys_of, lets
from undermasters.board import Board
from undermasters.errors import NoKey, NothingDone, NotQuiet, Twice
from undermasters.most import most_rooms, rank_rooms
from undermasters.quiet import most_more, share

LOCK, MASTER = (4, 4, 3), ((0, 0, 0),)


def board_with(*keys):
    """A Board with these KEYS, put in one behind another."""
    board = Board(LOCK, MASTER)
    for key in keys:
        board.put(key)
    return board


def least_pair(common, keys):
    return min([(one, other) for one in keys for other in keys if one != other and lets(common, one, other)])


class Plain:
    """A plain list of what a Board should be: OWN KEYS, and those ahead of each deed."""

    def __init__(self, common):
        self.common, self.own, self.done = common, (), []

    def refusal(self, deed, told):
        """What the deed is refused by, as the document orders it: the error's class and its values; None if it is done."""
        gone = {"put": (), "take_out": told, "change": told[:1], "undo": ()}[deed]
        fresh = {"put": told, "take_out": (), "change": told[1:], "undo": ()}[deed]
        if deed == "undo":
            return None if self.done else (NothingDone, {})
        for key in gone:
            if key not in self.own:
                return (NoKey, {"key": key})
        left = [key for key in self.own if key not in gone]
        for key in fresh:
            if key in left:
                return (Twice, {"key": key})
        later = tuple(sorted([*left, *fresh]))
        if not are_quiet(self.common, later):
            one, other = least_pair(self.common, later)
            return (NotQuiet, {"one": one, "other": other})
        self.done.append(self.own)
        self.own = later
        return None

    def undo(self):
        refused = self.refusal("undo", ())
        if refused is None:
            self.own = self.done.pop()
        return refused


class Deeds(unittest.TestCase):

    def raises(self, error, values, call, *told):
        with self.assertRaises(error) as caught:
            call(*told)
        self.assertEqual(vars(caught.exception), values)

    def state(self, board):
        return (board.depths(), board.common(), board.own(), len(board), board.deeds(), board.share())

    def test_new(self):
        board = Board(LOCK, MASTER)
        self.assertEqual(self.state(board), (LOCK, MASTER, (), 0, 0, (0, 1)))
        self.assertEqual(board.most_more(), 21)
        self.assertNotIn((0, 0, 0), board)

    def test_put(self):
        board = Board(LOCK, MASTER)
        self.assertIsNone(board.put((2, 0, 1)))
        self.assertIsNone(board.put((1, 2, 0)))
        self.assertEqual((board.own(), len(board), board.deeds()), (((1, 2, 0), (2, 0, 1)), 2, 2))
        before = self.state(board)
        self.raises(Twice, {"key": (2, 0, 1)}, board.put, (2, 0, 1))
        self.raises(Twice, {"key": (2, 0, 1)}, board.put, [2, 0, 1])
        # by the new KEY, by an old one, and by both: the least pair
        self.raises(NotQuiet, {"one": (1, 0, 0), "other": (1, 2, 0)}, board.put, (1, 0, 0))
        self.raises(NotQuiet, {"one": (1, 2, 0), "other": (1, 2, 2)}, board.put, [1, 2, 2])
        self.raises(NotQuiet, {"one": (0, 0, 0), "other": (1, 2, 0)}, board.put, (0, 0, 0))
        self.raises(NotQuiet, {"one": (2, 0, 1), "other": (2, 2, 1)}, board.put, (2, 2, 1))
        self.assertEqual(self.state(board), before)

    def test_take_out(self):
        board = board_with((1, 2, 0), (2, 0, 1))
        before = self.state(board)
        for key in ((3, 3, 2), (0, 0, 0), (1, 2, 1)):
            self.raises(NoKey, {"key": key}, board.take_out, key)
            self.raises(NoKey, {"key": key}, board.take_out, list(key))
        self.assertEqual(self.state(board), before)
        self.assertIsNone(board.take_out([1, 2, 0]))
        self.assertEqual((board.own(), board.deeds()), (((2, 0, 1),), 3))
        self.raises(NoKey, {"key": (1, 2, 0)}, board.take_out, (1, 2, 0))
        self.assertIsNone(board.take_out((2, 0, 1)))
        self.assertEqual((board.own(), len(board), board.deeds()), ((), 0, 4))
        self.raises(NoKey, {"key": (2, 0, 1)}, board.take_out, (2, 0, 1))

    def test_change(self):
        board = board_with((1, 2, 0), (2, 0, 1))
        self.assertIsNone(board.change((2, 0, 1), (0, 3, 1)))
        self.assertEqual((board.own(), board.deeds()), (((0, 3, 1), (1, 2, 0)), 3))
        before = self.state(board)
        # NoKey, then Twice, then NotQuiet
        self.raises(NoKey, {"key": (2, 0, 1)}, board.change, (2, 0, 1), (1, 2, 0))
        self.raises(NoKey, {"key": (2, 0, 1)}, board.change, (2, 0, 1), (1, 0, 0))
        self.raises(NoKey, {"key": (2, 0, 1)}, board.change, [2, 0, 1], [2, 0, 1])
        self.raises(Twice, {"key": (1, 2, 0)}, board.change, (0, 3, 1), (1, 2, 0))
        self.raises(NotQuiet, {"one": (1, 0, 0), "other": (1, 2, 0)}, board.change, (0, 3, 1), (1, 0, 0))
        self.assertEqual(self.state(board), before)
        # the KEY that goes does not count: the new one opens just its ROOM
        self.assertIsNone(board.change((1, 2, 0), (1, 0, 0)))
        self.assertEqual(board.own(), ((0, 3, 1), (1, 0, 0)))

    def test_what_changes_nothing_is_a_deed(self):
        board = board_with((1, 2, 0))
        self.assertIsNone(board.change((1, 2, 0), (1, 2, 0)))
        self.assertIsNone(board.change([1, 2, 0], [1, 2, 0]))
        self.assertEqual((board.own(), board.deeds()), (((1, 2, 0),), 3))
        for left in (2, 1, 0):
            self.assertIsNone(board.undo())
            self.assertEqual(board.deeds(), left)
        self.assertEqual(board.own(), ())

    def test_undo(self):
        board = Board(LOCK, MASTER)
        self.raises(NothingDone, {}, board.undo)
        board.put((1, 2, 0))
        board.put((2, 0, 1))
        board.change((2, 0, 1), (0, 3, 1))
        board.take_out((1, 2, 0))
        with self.assertRaises(NoKey):
            board.take_out((1, 2, 0))
        seen = []
        for _ in range(4):
            seen.append(board.own())
            self.assertIsNone(board.undo())
        self.assertEqual(seen, [((0, 3, 1),), ((0, 3, 1), (1, 2, 0)), ((1, 2, 0), (2, 0, 1)), ((1, 2, 0),)])
        self.assertEqual(self.state(board), self.state(Board(LOCK, MASTER)))
        self.raises(NothingDone, {}, board.undo)
        # what was taken back is gone for good
        board.put((3, 3, 2))
        self.assertEqual((board.own(), board.deeds()), (((3, 3, 2),), 1))
        board.undo()
        self.raises(NothingDone, {}, board.undo)

    def test_by_names(self):
        board = Board(common=MASTER, depths=LOCK)
        board.put(key=(1, 2, 0))
        board.change(fresh=(2, 0, 1), key=(1, 2, 0))
        self.assertEqual(board.own(), ((2, 0, 1),))
        board.take_out(key=(2, 0, 1))
        self.assertEqual((board.own(), board.deeds()), ((), 3))

    def test_deeds_against_plain_lists(self):
        draw = Random(17)
        kinds = {"put": 1, "take_out": 1, "change": 2}
        for depths, common in HOUSES * 2:
            board, plain = Board(depths, common), Plain(common)
            keys = keys_of(depths)
            for _ in range(60):
                deed = draw.choice(("put", "put", "take_out", "change", "change", "undo"))
                if deed == "undo":
                    self.hold_alike(board, plain, plain.undo(), board.undo, ())
                    continue
                told = tuple(draw.choice(plain.own) if plain.own and draw.random() < 0.4 else draw.choice(keys)
                             for _ in range(kinds[deed]))
                form = draw.choice((tuple, as_lists))
                self.hold_alike(board, plain, plain.refusal(deed, told), getattr(board, deed), [form(k) for k in told])

    def hold_alike(self, board, plain, refused, call, told):
        if refused is None:
            self.assertIsNone(call(*told))
        else:
            self.raises(*refused, call, *told)
        self.assertEqual((board.own(), len(board), board.deeds()), (plain.own, len(plain.own), len(plain.done)))
        self.assertFalse(has_list(board.own()))
        self.assertEqual(board.share(), share(board.depths(), board.common(), plain.own))
        self.assertEqual(board.most_more(), most_more(board.depths(), board.common(), plain.own))


class Kept(unittest.TestCase):

    def test_arguments_are_copied(self):
        depths, common, key, fresh = [4, 4, 3], [[0, 0, 0]], [1, 2, 0], [2, 0, 1]
        board = Board(depths, common)
        board.put(key)
        board.change(key, fresh)
        board.undo()
        depths.append(5)
        common[0][0] = 3
        common.append([1, 1, 1])
        key[0] = 3
        fresh[0] = 3
        self.assertEqual((board.depths(), board.common(), board.own()), (LOCK, MASTER, ((1, 2, 0),)))
        self.assertEqual(board, board_with((1, 2, 0)))

    def test_arguments_stay_as_they_were(self):
        depths, common, key = [4, 4, 3], [[0, 0, 0]], [1, 2, 0]
        board = Board(depths, common)
        board.put(key)
        self.assertIn(key, board)
        board.change(key, key)
        board.take_out(key)
        self.assertEqual((depths, common, key), ([4, 4, 3], [[0, 0, 0]], [1, 2, 0]))

    def test_contains(self):
        board = board_with((1, 2, 0), (2, 0, 1))
        for key in keys_of(LOCK):
            self.assertIs(key in board, key in ((1, 2, 0), (2, 0, 1)))
            self.assertIs(list(key) in board, key in ((1, 2, 0), (2, 0, 1)))

    def test_no_iteration(self):
        for board in (Board(LOCK, MASTER), board_with((1, 2, 0), (2, 0, 1))):
            for call in (iter, list, tuple, sorted, set, sum):
                with self.assertRaises(TypeError):
                    call(board)
            with self.assertRaises(TypeError):
                for _ in board:
                    pass
            with self.assertRaises(TypeError):
                board[0]
            with self.assertRaises(TypeError):
                _, _ = board

    def test_results(self):
        board = Board([4, 4, 3], [[0, 0, 0], [0, 1, 0]])
        board.put([1, 2, 0])
        for result in (board.depths(), board.common(), board.own(), board.share()):
            self.assertIsInstance(result, tuple)
            self.assertFalse(has_list(result))
        self.assertEqual((len(board), board.deeds()), (1, 1))
        self.assertEqual(board.own(), board.own())

    def test_share_and_most_more(self):
        board = board_with((1, 2, 0), (2, 0, 1))
        self.assertEqual((board.share(), board.most_more()), ((2, 21), 19))
        for key in rank_rooms(LOCK, MASTER, 1):
            other = Board(LOCK, MASTER)
            other.put(key)
            self.assertEqual((other.share(), other.most_more()), ((1, 8), 18))
        other = board_with((0, 0, 0))
        self.assertEqual((other.share(), other.most_more()), ((1, 1), 0))


class Twins(unittest.TestCase):

    def test_a_twin_shares_nothing(self):
        board = board_with((1, 2, 0), (2, 0, 1))
        twin = board.twin()
        self.assertEqual((twin.own(), twin.deeds(), twin.depths(), twin.common()), (board.own(), 2, LOCK, MASTER))
        twin.put((0, 3, 1))
        twin.undo()
        twin.undo()
        self.assertEqual((twin.own(), twin.deeds()), (((1, 2, 0),), 1))
        self.assertEqual((board.own(), board.deeds()), (((1, 2, 0), (2, 0, 1)), 2))
        board.take_out((1, 2, 0))
        board.undo()
        board.undo()
        board.undo()
        with self.assertRaises(NothingDone):
            board.undo()
        self.assertEqual((twin.own(), twin.deeds()), (((1, 2, 0),), 1))
        twin.undo()
        self.assertEqual((twin.own(), twin.deeds()), ((), 0))
        with self.assertRaises(NothingDone):
            twin.undo()

    def test_a_twin_of_a_twin(self):
        board = board_with((1, 2, 0))
        twin = board.twin().twin()
        board.undo()
        self.assertEqual((twin.own(), twin.deeds(), board.own()), (((1, 2, 0),), 1, ()))
        self.assertIsInstance(twin, Board)

    def test_equal_with_other_deeds(self):
        board = board_with((1, 2, 0), (2, 0, 1))
        other = board_with((2, 0, 1), (0, 3, 1))
        self.assertIs(board == other, False)
        self.assertIs(board != other, True)
        other.change((0, 3, 1), (1, 2, 0))
        self.assertIs(board == other, True)
        self.assertIs(board != other, False)
        self.assertEqual((board.deeds(), other.deeds()), (2, 3))
        self.assertIs(board == board.twin(), True)
        other.undo()
        self.assertIs(board == other, False)

    def test_unequal(self):
        board = Board(LOCK, MASTER)
        self.assertIs(board == Board([4, 4, 3], [[0, 0, 0]]), True)
        self.assertIs(board == Board((4, 4, 4), MASTER), False)
        self.assertIs(board == Board(LOCK, ((0, 0, 1),)), False)
        self.assertIs(board == Board(LOCK, ((0, 0, 0), (0, 1, 0))), False)
        self.assertIs(board == board_with((0, 0, 0)), False)

    def test_other_things(self):
        class Like:
            lock, masters, owners, earlier = LOCK, MASTER, (), []

        for board in (Board(LOCK, MASTER), board_with((1, 2, 0))):
            for thing in (None, True, False, 0, 1, "", (), [], {}, board.own(), (LOCK, MASTER, board.own()), Like(),
                          board.depths, Board, object()):
                self.assertIs(board == thing, False)
                self.assertIs(board != thing, True)
                self.assertIs(thing == board, False)


class Great(unittest.TestCase):

    def test_forty_keys_and_sixty_deeds(self):
        depths, common = (20,) * 12, tuple((at,) * 12 for at in range(6))
        board = Board(depths, common)
        keys = [tuple(6 + (at * 7 + pin * 3) % 14 if (at >> pin % 6) & 1 == pin // 6 else pin % 6 for pin in range(12))
                for at in range(64)]
        keys = sorted(set(keys))[:40]
        self.assertEqual(len(keys), 40)
        self.assertTrue(are_quiet(common, keys))
        states = [()]
        for key in keys[::-1]:
            board.put(key)
            states.append(board.own())
        self.assertEqual((board.own(), len(board)), (tuple(keys), 40))
        for key in keys[:20]:
            board.change(key, key)
            states.append(board.own())
        self.assertEqual(board.deeds(), 60)
        self.assertEqual(board.share(), share(depths, common, tuple(keys)))
        self.assertLess(board.most_more(), most_rooms(depths, common))
        twin = board.twin()
        for state in states[-2::-1]:
            board.undo()
            self.assertEqual(board.own(), state)
        self.assertEqual((len(board), board.deeds(), twin.deeds()), (0, 0, 60))
        self.assertEqual(twin.own(), tuple(keys))

    def test_as_many_as_can_be(self):
        for depths, common in (((4, 4, 3), MASTER), ((3, 3), ((0, 0),)), ((2,) * 6, ((0,) * 6,))):
            board = Board(depths, common)
            for key in keys_of(depths):
                if len([cut for cut in key if cut]) == len(depths) - (1 if depths[0] > 2 else 3):
                    board.put(key)
            self.assertEqual(len(board), most_rooms(depths, common))
            self.assertEqual((board.share(), board.most_more()), ((1, 1), 0))
            for key in keys_of(depths):
                with self.assertRaises(Twice if key in board else NotQuiet):
                    board.put(key)

    def test_always_quiet(self):
        for common in (((0, 0),), ((0, 0), (1, 1)), ((0, 0), (1, 1), (2, 2))):
            for told in product(keys_of((3, 3)), repeat=3):
                board = Board((3, 3), common)
                for key in told:
                    try:
                        board.put(key)
                    except (NotQuiet, Twice):
                        pass
                self.assertTrue(are_quiet(common, board.own()))


if __name__ == "__main__":
    unittest.main()

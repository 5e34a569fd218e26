"""Point 19: each request with its reply, each refusal, and lines that are no requests."""

import unittest
from random import Random

from tests.support import HOUSES, NEVER, as_lists, keys_of, lets, row
from undermasters import desk
from undermasters.board import Board
from undermasters.desk import is_request, replies
from undermasters.errors import BadLine, NoKey, NoNumber, NothingDone, NotQuiet, Twice
from undermasters.most import most_rooms, nth_room, rank_sizes
from undermasters.texts import key_text, keys_text

LOCK, MASTER = (4, 4, 3), ((0, 0, 0),)

REQUESTS = (
    "put 1-2-0", "out 1-2-0", "change 1-2-0 2-0-1", "undo", "own", "many", "share", "more", "clash 1-0-0", "sizes", "most",
    "room 2 0", "rank 1-2-0", "opens 1-0-0 1-2-0", "alike 1-0-0 1-0-0",
)


class Requests(unittest.TestCase):

    def test_requests(self):
        for line in REQUESTS:
            for depths in (LOCK, [4, 4, 3]):
                self.assertIs(is_request(depths, line), True, line)

    def test_keys_of_the_depths(self):
        for line in ("put KEY", "out KEY", "clash KEY", "rank KEY", "change KEY 0-0-0", "change 0-0-0 KEY", "opens KEY 1-1-1",
                     "opens 1-1-1 KEY", "alike KEY 1-1-1", "alike 1-1-1 KEY"):
            for key in keys_of(LOCK):
                self.assertIs(is_request(LOCK, line.replace("KEY", key_text(key))), True)
            for key in ("4-0-0", "0-4-0", "0-0-3", "0-0", "0-0-0-0", "0", "none", "0-0-0,", "0-0-0, 1-1-1", "00-0-0", "0-0-01",
                        "0-0-*", "*", "-0-0", "0--0", "0-0-", "0-0-\u0661", "0,0,0", "", "KEY", "(0, 0, 0)", "-1-0-0"):
                self.assertIs(is_request(LOCK, line.replace("KEY", key)), False, (line, key))

    def test_numbers(self):
        for free in range(4):
            for number in (0, 7, 10, 10 ** 40, 10 ** 390):
                self.assertIs(is_request(LOCK, f"room {free} {number}"), True)
        for free in ("4", "10", "-1", "", "00", "01", "+1", "\u0661", "1.0", "x", str(10 ** 40), "*"):
            self.assertIs(is_request(LOCK, f"room {free} 0"), False, free)
        for number in ("-1", "", "00", "01", "007", "+1", "\u0662", "\u00b2", "1.0", "x", "1-0", "*", "none"):
            self.assertIs(is_request(LOCK, f"room 1 {number}"), False, number)
        self.assertIs(is_request((2,), "room 1 0"), True)
        self.assertIs(is_request((2,), "room 2 0"), False)
        self.assertIs(is_request((2,) * 12, "room 12 0"), True)
        self.assertIs(is_request((2,) * 12, "room 13 0"), False)

    def test_blanks(self):
        for line in REQUESTS:
            for wrong in (f" {line}", f"{line} ", line.replace(" ", "  "), line.replace(" ", "\t"), f"{line}\n", f"\n{line}",
                          line.replace(" ", ""), f"{line}\r", line.replace(" ", "\u00a0")):
                if wrong != line:
                    self.assertIs(is_request(LOCK, wrong), False, repr(wrong))

    def test_words(self):
        for line in REQUESTS:
            word = line.split(" ")[0]
            for other in (word.upper(), word.title(), word + "s", word[:-1], f"x{word}"):
                self.assertIs(is_request(LOCK, line.replace(word, other, 1)), False)
        for line in ("", " ", "\n", "put", "take_out 1-2-0", "take out 1-2-0", "deeds", "twin", "len", "quit", "none", "1-2-0",
                     "put KEY", "__len__", "most_more", "keys", "depths", "common", "help", "put,1-2-0", "own;many"):
            self.assertIs(is_request(LOCK, line), False, line)

    def test_too_few_and_too_many_words(self):
        for line in REQUESTS:
            self.assertIs(is_request(LOCK, f"{line} 0"), False)
            self.assertIs(is_request(LOCK, f"{line} 0-0-0"), False)
            if " " in line:
                self.assertIs(is_request(LOCK, line.rsplit(" ", 1)[0]), False)

    def test_long_strings(self):
        for many in (392, 393, 394, 500, 4000):
            line = "room 1 " + "1" * many
            self.assertIs(is_request(LOCK, line), many <= 393, many)
        self.assertEqual(len("room 1 " + "1" * 393), 400)
        self.assertIs(is_request(LOCK, "own" + " " * 397), False)
        # a KEY with a text of more signs is none of a request
        depths = (10,) * 250
        self.assertIs(is_request(depths, "put " + key_text((1,) * 250)), False)
        self.assertIs(is_request(depths[:198], "put " + key_text((1,) * 198)), True)
        self.assertIs(is_request(depths[:199], "put " + key_text((1,) * 199)), False)

    def test_things(self):
        for thing in (*NEVER, ("own",), ["own"], ("put", (1, 2, 0)), ("put", "1-2-0"), 15, ("own", "many")):
            self.assertIs(is_request(LOCK, thing), False, thing)


class Replies(unittest.TestCase):

    def told(self, *lines, common=MASTER, depths=LOCK):
        return replies(depths, common, "\n".join(lines))

    def test_deeds(self):
        self.assertEqual(self.told("put 1-2-0", "put 2-0-1", "own"), ["done", "done", "1-2-0, 2-0-1"])
        self.assertEqual(self.told("put 1-2-0", "change 1-2-0 2-0-1", "own"), ["done", "done", "2-0-1"])
        self.assertEqual(self.told("put 1-2-0", "change 1-2-0 1-2-0", "own"), ["done", "done", "1-2-0"])
        self.assertEqual(self.told("put 1-2-0", "out 1-2-0", "own", "undo", "own"),
                         ["done", "done", "none", "done", "1-2-0"])
        self.assertEqual(self.told("put 1-2-0", "change 1-2-0 2-0-1", "undo", "own", "undo", "own"),
                         ["done", "done", "done", "1-2-0", "done", "none"])

    def test_refused(self):
        self.assertEqual(self.told("undo"), ["refused NothingDone"])
        self.assertEqual(self.told("out 1-2-0"), ["refused NoKey"])
        self.assertEqual(self.told("change 1-2-0 1-2-0"), ["refused NoKey"])
        self.assertEqual(self.told("put 1-2-0", "put 1-2-0"), ["done", "refused Twice"])
        self.assertEqual(self.told("put 1-2-0", "put 2-0-1", "change 1-2-0 2-0-1"), ["done", "done", "refused Twice"])
        self.assertEqual(self.told("put 1-2-0", "put 1-0-0"), ["done", "refused NotQuiet"])
        self.assertEqual(self.told("put 1-2-0", "put 2-0-1", "change 2-0-1 1-0-0"), ["done", "done", "refused NotQuiet"])
        self.assertEqual(self.told("room 2 20", "room 2 21", "room 0 0", "room 0 1", "room 3 18"),
                         ["3-3-0", "refused NoNumber", "0-0-0", "refused NoNumber", "refused NoNumber"])
        self.assertEqual(self.told(f"room 1 {10 ** 390}"), ["refused NoNumber"])

    def test_what_is_refused_changes_nothing(self):
        lines = ("put 1-2-0", "put 1-2-0", "put 1-0-0", "out 3-3-2", "change 3-3-2 1-1-1", "room 0 1", "own", "many", "undo",
                 "own", "undo", "put 3-3-2", "own")
        self.assertEqual(self.told(*lines),
                         ["done", "refused Twice", "refused NotQuiet", "refused NoKey", "refused NoKey", "refused NoNumber",
                          "1-2-0", "1", "done", "none", "refused NothingDone", "done", "3-3-2"])

    def test_own_many_share_more(self):
        self.assertEqual(self.told("own", "many", "share", "more"), ["none", "0", "0/1", "21"])
        self.assertEqual(self.told("put 0-0-0", "own", "many", "share", "more"), ["done", "0-0-0", "1", "1/1", "0"])
        self.assertEqual(self.told("put 1-2-0", "put 0-0-1", "share", "more", "many"), ["done", "done", "29/168", "17", "2"])

    def test_clash(self):
        lines = ("put 1-2-0", "put 2-0-1", "put 0-3-1")
        self.assertEqual(self.told(*lines, "clash 1-2-0")[3], "none")
        self.assertEqual(self.told(*lines, "clash 0-0-0")[3], "0-3-1, 1-2-0, 2-0-1")
        self.assertEqual(self.told(*lines, "clash 0-0-1")[3], "0-3-1, 2-0-1")
        self.assertEqual(self.told(*lines, "clash 1-2-1")[3], "1-2-0")
        self.assertEqual(self.told(*lines, "clash 3-1-2")[3], "none")
        self.assertEqual(self.told("clash 1-2-0"), ["none"])

    def test_sizes_most_room(self):
        self.assertEqual(self.told("sizes", "most", "room 2 0"), ["1 8 21 18", "21", "0-1-1"])
        common = ((0, 0, 0), (1, 0, 0))
        self.assertEqual(self.told("sizes", "most", "room 1 0", "room 1 7", common=common),
                         ["1 7 16 12", "16", "0-0-1", "refused NoNumber"])
        self.assertEqual(self.told("sizes", "room 1 0", common=((0,), (1,)), depths=(2,)), ["1 0", "refused NoNumber"])

    def test_rank_opens_alike(self):
        common = ((0, 0, 0), (1, 0, 0))
        self.assertEqual(self.told("rank 0-0-0", "rank 1-0-2", "rank 2-1-2", common=common), ["0", "1", "3"])
        self.assertEqual(self.told("opens 0-2-0 1-2-0", "opens 1-2-0 0-2-0", "opens 0-2-0 1-0-0", "opens 2-2-0 2-2-0",
                                   common=common), ["yes", "yes", "no", "yes"])
        self.assertEqual(self.told("alike 0-2-0 1-2-0", "alike 2-2-0 1-2-0", "alike 3-3-1 3-3-1", common=common),
                         ["yes", "no", "yes"])

    def test_the_empty_text(self):
        self.assertEqual(replies(LOCK, MASTER, ""), [])

    def test_told_as_lists(self):
        depths, common = [4, 4, 3], [[0, 0, 0]]
        text = "put 1-2-0\nput 2-0-1\nown\nclash 1-2-1\nsizes\nroom 1 0\nput 1-2-0"
        self.assertEqual(replies(depths, common, text), replies(LOCK, MASTER, text))
        self.assertEqual((depths, common), ([4, 4, 3], [[0, 0, 0]]))

    def test_a_new_list_each_time(self):
        first = replies(LOCK, MASTER, "own\nput 1-2-0\nown")
        first.append("more")
        self.assertEqual(replies(LOCK, MASTER, "own\nput 1-2-0\nown"), ["none", "done", "1-2-0"])
        replies(LOCK, MASTER, "").append("more")
        self.assertEqual(replies(LOCK, MASTER, ""), [])

    def test_each_word_has_a_reply(self):
        self.assertEqual(list(desk.WORDS), list(desk.ACTIONS))
        self.assertEqual(list(desk.WORDS), [line.split(" ")[0] for line in REQUESTS])

    def test_against_a_board(self):
        draw = Random(19)
        for depths, common in HOUSES * 3:
            keys, board, lines, expected = keys_of(depths), Board(depths, common), [], []
            for _ in range(60):
                word = draw.choice([line.split(" ")[0] for line in REQUESTS] + ["put", "put", "change"])
                one, other = draw.choice(keys), draw.choice(keys)
                if len(board) and draw.random() < 0.5:
                    one = draw.choice(board.own())
                free, number = draw.randrange(len(depths) + 1), draw.randrange(5)
                behind = {"room": [str(free), str(number)], "put": [key_text(one)], "out": [key_text(one)],
                          "clash": [key_text(one)], "rank": [key_text(one)], "change": [key_text(one), key_text(other)],
                          "opens": [key_text(one), key_text(other)], "alike": [key_text(one), key_text(other)]}
                lines.append(" ".join([word, *behind.get(word, [])]))
                expected.append(self.reply(board, word, one, other, free, number))
            self.assertEqual(replies(depths, common, "\n".join(lines)), expected)
            self.assertEqual(replies(as_lists(depths), as_lists(common), "\n".join(lines)), expected)

    def reply(self, board, word, one, other, free, number):
        """The reply by the Board and the functions that the document names."""
        depths, common = board.depths(), board.common()
        try:
            if word in ("put", "out", "change", "undo"):
                deed = {"put": lambda: board.put(one), "out": lambda: board.take_out(one), "undo": board.undo,
                        "change": lambda: board.change(one, other)}[word]
                deed()
                return "done"
            if word == "room":
                return key_text(nth_room(depths, common, free, number))
        except (NoKey, NoNumber, NothingDone, NotQuiet, Twice) as error:
            return f"refused {type(error).__name__}"
        clashing = [key for key in board.own() if key != one and (lets(common, key, one) or lets(common, one, key))]
        return {"own": keys_text(board.own()), "many": str(len(board.own())), "more": str(board.most_more()),
                "share": "/".join(str(part) for part in board.share()), "clash": keys_text(clashing),
                "sizes": " ".join(str(size) for size in rank_sizes(depths, common)), "most": str(most_rooms(depths, common)),
                "rank": str(len(one) - row(common, one).count(None)), "opens": "yes" if lets(common, one, other) else "no",
                "alike": "yes" if row(common, one) == row(common, other) else "no"}[word]


class BadLines(unittest.TestCase):

    def bad(self, text, number, depths=LOCK, common=MASTER):
        with self.assertRaises(BadLine) as caught:
            replies(depths, common, text)
        self.assertEqual(vars(caught.exception), {"number": number}, text)

    def test_the_first_line_that_is_no_request(self):
        self.bad("x", 0)
        self.bad("own\nput 4-0-0", 1)
        self.bad("own\nput 4-0-0\nx\ny", 1)
        self.bad("own\nmany\nshare \nx", 2)

    def test_ahead_of_all_else(self):
        self.bad("undo\nout 1-2-0\nput 1-2-0\nput 1-2-0\nroom 0 7\nx", 5)

    def test_empty_lines(self):
        self.bad("own\n", 1)
        self.bad("\nown", 0)
        self.bad("\n", 0)
        self.bad("own\n\nown", 1)
        self.bad("own\nmany\n\n", 2)
        self.bad(" ", 0)

    def test_other_line_ends(self):
        self.bad("own\r\nmany", 0)
        self.bad("own\rmany", 0)
        self.bad("own\nmany\x0bown", 1)
        self.bad("own\x0cmany", 0)

    def test_long_lines(self):
        self.assertEqual(replies(LOCK, MASTER, "own\nroom 1 " + "1" * 393), ["none", "refused NoNumber"])
        self.bad("own\nroom 1 " + "1" * 394, 1)

    def test_keys_of_other_depths(self):
        self.bad("put 1-2-0", 0, (4, 4), ((0, 0),))
        self.bad("own\nput 1-2", 1)
        self.bad("put 1-2-3", 0)


class Great(unittest.TestCase):

    def test_sixty_lines(self):
        depths, common = (20,) * 12, tuple((at,) * 12 for at in range(6))
        keys = sorted({tuple(6 + (at * 7 + pin * 3) % 14 if (at >> pin % 6) & 1 == pin // 6 else pin % 6
                             for pin in range(12)) for at in range(40)})
        lines = [f"put {key_text(key)}" for key in keys] + ["many", "share", "more", "most", "sizes", "own"]
        lines += [f"clash {key_text(key)}" for key in keys[:5]] + ["room 12 0", "room 6 123456789"] + ["undo"] * 6 + ["many"]
        told = replies(depths, common, "\n".join(lines))
        self.assertEqual(told[:40], ["done"] * 40)
        self.assertEqual((told[40], told[-1]), ("40", "34"))
        self.assertEqual(told[45], keys_text(tuple(keys)))
        self.assertEqual(told[43], str(most_rooms(depths, common)))


if __name__ == "__main__":
    unittest.main()

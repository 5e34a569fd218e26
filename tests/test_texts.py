"""Point 18: texts there and back, and each way in which a text is none."""

import unittest
from itertools import product
from random import Random

from tests.support import HOUSES, as_lists, doors_of, has_list, keys_of, row, subsets
from undermasters import texts
from undermasters.cuts import is_depths, is_keys
from undermasters.errors import BadLine, BadText

READERS = (texts.depths_read, texts.key_read, texts.keys_read, texts.row_read, texts.door_read)
WRITERS = (texts.depths_text, texts.key_text, texts.keys_text, texts.row_text, texts.door_text)

# No number is written so: needless noughts, signs, blanks, and signs that are digits elsewhere.
NO_NUMBERS = (
    "", "00", "01", "007", "-1", "+1", "--1", "1.0", "1e3", "0x1", "1_0", "a", "O", "l", " 1", "1 ", "\t1", "1\n", "\n",
    "\u0661", "1\u0662", "\u00b2", "\u00bd", "\u0967", "\uff11", "\u2460", "\u4e00", "None", "none ", "**", "?", ";", "'1'",
    "1\r", "\x001", "1\u00a0", "\u2212" + "1", "1,", "(1)", "1 0 0 ", "True",
)


class There(unittest.TestCase):

    def test_depths_text(self):
        self.assertEqual(texts.depths_text((2,)), "2")
        self.assertEqual(texts.depths_text((20,) * 12), " ".join(["20"] * 12))
        self.assertEqual(texts.depths_text((10 ** 40, 2)), "1" + "0" * 40 + " 2")

    def test_key_and_keys_text(self):
        self.assertEqual(texts.key_text((0,)), "0")
        self.assertEqual(texts.key_text((19, 0, 7)), "19-0-7")
        self.assertEqual(texts.keys_text(()), "none")
        self.assertEqual(texts.keys_text([]), "none")
        self.assertEqual(texts.keys_text(((0,),)), "0")
        self.assertEqual(texts.keys_text(((0, 1), (10, 11), (10, 12))), "0-1, 10-11, 10-12")

    def test_row_and_door_text(self):
        self.assertEqual(texts.row_text((None, 0, 12, None)), "*-0-12-*")
        self.assertEqual(texts.row_text((None,)), "*")
        self.assertEqual(texts.door_text(((0,),)), "0")
        self.assertEqual(texts.door_text(((0, 3, 11), (5,))), "0,3,11 / 5")

    def test_plan_text(self):
        self.assertEqual(texts.plan_text((3, 3), ((0, 0), (1, 2)), ()), "3 3\n0-0, 1-2\nnone")
        self.assertEqual(texts.plan_text([3], [[0]], [[1], [2]]), "3\n0\n1, 2")


class ThereAndBack(unittest.TestCase):

    def hold(self, write, read, thing):
        for form in (thing, as_lists(thing)):
            text = write(form)
            self.assertIsInstance(text, str)
            self.assertEqual(read(text), thing)
            self.assertFalse(has_list(read(text)))

    def test_depths(self):
        for pins in (1, 2, 3):
            for depths in product((2, 3, 10, 99), repeat=pins):
                self.hold(texts.depths_text, texts.depths_read, depths)
        self.hold(texts.depths_text, texts.depths_read, (2,) * 200)
        self.hold(texts.depths_text, texts.depths_read, (10 ** 399,))
        self.hold(texts.depths_text, texts.depths_read, (10 ** 40, 2, 10 ** 6))

    def test_keys(self):
        for depths, common in HOUSES:
            keys = keys_of(depths)
            for key in keys:
                self.hold(texts.key_text, texts.key_read, key)
                self.hold(texts.row_text, texts.row_read, row(common, key))
            for some in subsets(keys, 0, 2):
                self.hold(texts.keys_text, texts.keys_read, some)
            self.hold(texts.keys_text, texts.keys_read, tuple(keys))
        self.hold(texts.key_text, texts.key_read, tuple(range(120)))
        self.hold(texts.keys_text, texts.keys_read, ((9,), (10,), (11,), (100,)))
        self.hold(texts.keys_text, texts.keys_read, ((9, 10), (10, 9), (10, 10)))

    def test_doors(self):
        for depths in ((3,), (3, 2), (2, 2, 2)):
            for door in doors_of(depths):
                self.hold(texts.door_text, texts.door_read, door)
        self.hold(texts.door_text, texts.door_read, ((2, 10, 19), (9, 10), (0,)))

    def test_rows(self):
        for told in product((None, 0, 7, 12), repeat=3):
            self.hold(texts.row_text, texts.row_read, told)

    def test_plans(self):
        for depths, common in HOUSES:
            for own in subsets(keys_of(depths), 0, 2):
                for form in (lambda thing: thing, as_lists):
                    text = texts.plan_text(form(depths), form(common), form(own))
                    self.assertEqual(texts.plan_read(text), (depths, common, own))
                    self.assertFalse(has_list(texts.plan_read(text)))

    def test_a_text_that_can_be_read_is_the_text_of_what_is_read(self):
        draw = Random(18)
        found = 0
        for _ in range(30000):
            text = "".join(draw.choice("0123 -,/*n") for _ in range(draw.randrange(1, 8)))
            for read, write in zip(READERS, WRITERS):
                try:
                    thing = read(text)
                except BadText:
                    continue
                found += 1
                self.assertEqual(write(thing), text)
        self.assertGreater(found, 1000)


class NoTexts(unittest.TestCase):

    def none(self, read, *told):
        for text in told:
            with self.assertRaises(BadText, msg=(read, text)) as caught:
                read(text)
            self.assertEqual(vars(caught.exception), {})

    def test_numbers(self):
        for text in NO_NUMBERS:
            self.none(texts.depths_read, text, f"{text} 3", f"3 {text}", f"3 {text} 3")
            if text != "-1":
                self.none(texts.key_read, f"{text}-3", f"3-{text}", f"3-{text}-3")
            self.none(texts.key_read, text, f"{text} 3", f"3 {text}")
            if text != "**":
                self.none(texts.row_read, text, f"{text}-3", f"3-{text}", f"*-{text}-*")
            if text not in ("none ",):
                self.none(texts.keys_read, text, f"0, {text}", f"{text}, 9")
            if text != "1,":
                self.none(texts.door_read, text, f"0 / {text}", f"{text} / 0", f"0,{text}")

    def test_depths(self):
        self.none(texts.depths_read, "", " ", "1", "0", "2 1", "1 2", "3 0", "3  3", " 3 3", "3 3 ", "3\t3", "3,3", "3-3",
                  "3 3\n", "\n3 3", "03 3", "3 03", "none", "*", "3 *", "-3", "3 -3", "\u0663 \u0663", "3\u00a03")
        self.assertEqual(texts.depths_read("2 2"), (2, 2))

    def test_keys(self):
        self.none(texts.key_read, "", "-", "-0", "0-", "0--1", "0 - 1", "0-1 ", " 0-1", "0-1\n", "0,1", "0 1", "*", "0-*",
                  "none", "00", "0-01", "0-\u0661", "0-1, 1-0", "0-1,", "0\u20131")
        self.none(texts.keys_read, "", "-", "None", "NONE", "none ", " none", "none, none", "none, 0-1", "0-1, none", "()",
                  "0-1,1-0", "0-1,  1-0", "0-1 , 1-0", "0-1, 1-0,", "0-1, 1-0, ", ", 0-1", " 0-1", "0-1 ", "0-1\n",
                  "0-1; 1-0", "0-1 1-0", "0-*", "*", "0-1, 1-00", "0-1, -1-0", "0-1, 1-0-")

    def test_sets_of_keys(self):
        # out of their order, something twice, unlike lengths
        self.none(texts.keys_read, "1-0, 0-1", "0-1, 0-1", "0-1, 1-0, 1-0", "0-1, 0-0, 1-0", "10-0, 9-0", "9-10, 9-9",
                  "0, 0-1", "0-1, 1", "0-1, 1-0-0", "0, 1-1, 2", "1-1, 2, 3-3")
        self.assertEqual(texts.keys_read("9-0, 10-0"), ((9, 0), (10, 0)))
        self.assertEqual(texts.keys_read("0"), ((0,),))

    def test_rows(self):
        self.none(texts.row_read, "", "-", "*-", "-*", "*--*", "**", "*0", "0*", "* - *", "*,*", " *", "* ", "*\n", "none",
                  "None", "0-None", "x-0", "00-*", "*-01", "\u2217", "0-\u0661-*")

    def test_doors(self):
        self.none(texts.door_read, "", " / ", "0 / ", " / 0", "0/1", "0 /1", "0/ 1", "0  / 1", "0 /  1", "0 / 1 ", " 0 / 1",
                  "0 / 1\n", "0, 1", "0 ,1", "0,", ",0", "0,,1", "1,0", "0,0", "0,2,1", "0 / 1,0", "0,1 / 2,2", "10,9",
                  "none", "*", "0 / *", "0-1", "0 / 01", "0 // 1", "0 / / 1", "\u0660 / 1")
        self.assertEqual(texts.door_read("9,10"), ((9, 10),))

    def test_none_stands_for_no_keys_alone(self):
        self.none(texts.depths_read, "none")
        self.none(texts.key_read, "none")
        self.none(texts.row_read, "none")
        self.none(texts.door_read, "none")
        self.assertEqual(texts.keys_read("none"), ())

    def test_one_text_for_several_kinds(self):
        self.assertEqual([read("5") for read in READERS], [(5,), (5,), ((5,),), (5,), ((5,),)])
        self.none(texts.depths_read, "5-6")
        self.assertEqual((texts.key_read("5-6"), texts.row_read("5-6"), texts.keys_read("5-6")), ((5, 6), (5, 6), ((5, 6),)))

    def test_long_texts(self):
        digits = "9" * 400
        self.assertEqual(texts.key_read(digits), (10 ** 400 - 1,))
        self.assertEqual(texts.row_read(digits), (10 ** 400 - 1,))
        self.none(texts.key_read, "0" + digits[1:], digits + "-", "-" * 400, "0" * 400)
        self.assertEqual(len(texts.key_read("-".join(["1"] * 200))), 200)


class Plans(unittest.TestCase):

    RIGHT = ("4 4 3", "0-0-0, 0-1-0", "1-2-0, 2-0-1")

    def bad(self, text, number):
        with self.assertRaises(BadLine) as caught:
            texts.plan_read(text)
        self.assertEqual(vars(caught.exception), {"number": number}, text)

    def test_right(self):
        expected = ((4, 4, 3), ((0, 0, 0), (0, 1, 0)), ((1, 2, 0), (2, 0, 1)))
        self.assertEqual(texts.plan_read("\n".join(self.RIGHT)), expected)
        # own KEYS can be (), and need not be quiet
        self.assertEqual(texts.plan_read("3 3\n0-0\nnone"), ((3, 3), ((0, 0),), ()))
        self.assertEqual(texts.plan_read("3 3\n0-0\n0-1, 1-1"), ((3, 3), ((0, 0),), ((0, 1), (1, 1))))

    def test_too_few_lines(self):
        self.bad("4 4 3", 1)
        self.bad("4 4 3\n0-0-0", 2)
        self.bad("", 0)

    def test_a_line_feed_at_the_end(self):
        self.bad("\n", 0)
        self.bad("4 4 3\n", 1)
        self.bad("4 4 3\n0-0-0\n", 2)
        self.bad("4 4 3\n0-0-0\nnone\n", 3)
        self.bad("\n".join(self.RIGHT) + "\n", 3)

    def test_too_many_lines(self):
        right = "\n".join(self.RIGHT)
        self.bad(right + "\nnone", 3)
        self.bad(right + "\n1-2-0\n1-2-0", 3)
        self.bad(right + "\n" * 50, 3)
        # the first line that is wrong
        self.bad("4 4 3\n0-0-0\n4-0-0\nnone", 2)
        self.bad("4 4 3\nnone\nnone\nnone", 1)

    def test_first_line(self):
        for line in ("", "4 4 1", "4  4", " 4", "4 ", "4-4", "none", "04", "4 x", "\u0664"):
            self.bad("\n".join([line, *self.RIGHT[1:]]), 0)
            self.bad(line, 0)
            self.bad(f"{line}\nx\nx\nx", 0)

    def test_second_line(self):
        for line in ("", "none", "4-0-0", "0-4-0", "0-0-3", "0-0", "0-0-0-0", "0-1-0, 0-0-0", "0-0-0, 0-0-0", "0-0-0, 0-0",
                     "0-0-0,0-1-0", "0-0-0 ", " 0-0-0", "0-0-*", "0-0-00", "0-0-0, 4-0-0", "0-0-0, none"):
            self.bad("\n".join([self.RIGHT[0], line, self.RIGHT[2]]), 1)
            self.bad("\n".join([self.RIGHT[0], line]), 1)
            self.bad("\n".join([self.RIGHT[0], line, "x", "x"]), 1)

    def test_third_line(self):
        for line in ("", "None", "4-0-0", "1-2-3", "1-2", "1-2-0-0", "2-0-1, 1-2-0", "1-2-0, 1-2-0", "1-2-0, 2-0",
                     "1-2-0,2-0-1", "1-2-0 ", " 1-2-0", "1-2-*", "1-02-0", "none, 1-2-0", "none "):
            self.bad("\n".join([*self.RIGHT[:2], line]), 2)
            self.bad("\n".join([*self.RIGHT[:2], line, "x"]), 2)

    def test_other_line_ends(self):
        self.bad("4 4 3\r\n0-0-0\r\nnone", 0)
        self.bad("4 4 3\r0-0-0\rnone", 0)
        self.bad("4 4 3\n0-0-0\nnone\r", 2)
        self.bad("4 4 3\x0b0-0-0\x0cnone", 0)

    def test_great(self):
        depths = (20,) * 12
        common = tuple((at,) * 12 for at in range(6))
        own = tuple(sorted((19, at % 20) + (7,) * 5 + (at // 20,) * 5 for at in range(12)))
        text = texts.plan_text(depths, common, own)
        self.assertEqual(texts.plan_read(text), (depths, common, own))
        self.assertTrue(is_depths(depths) and is_keys(depths, common) and is_keys(depths, own))


if __name__ == "__main__":
    unittest.main()

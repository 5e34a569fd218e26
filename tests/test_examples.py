"""Every example of the document whose promise has landed, as it stands there."""

import unittest

from undermasters import cuts, doors

KEYS = r"""
    >>> depths, common = (4, 4, 3), ((0, 0, 0), (0, 1, 0))
    >>> how_many_keys(depths), nth_key(depths, 47), number_of_key(depths, (3, 3, 2)), nth_key(depths, 0), common_cuts(common)
    (48, (3, 3, 2), 47, (0, 0, 0), ((0,), (0, 1), (0,)))
    >>> free_pins(common, (2, 1, 2)), rank(common, (2, 1, 2)), row_of(common, (2, 1, 2)), row_of(common, (0, 0, 0)), alike(common, (2, 1, 2), (2, 0, 2))
    ((0, 2), 2, (2, None, 2), (None, None, None), True)
    >>> opens_room(common, (2, 1, 0), (2, 3, 2)), opens_room(common, (2, 3, 2), (2, 1, 0)), barring_pin(common, (2, 3, 2), (2, 1, 0)), opens_room(common, (0, 1, 0), (3, 3, 1))
    (True, False, 1, True)
    >>> some = ((1, 0, 0), (1, 2, 0), (2, 2, 1))
    >>> openers_of(common, some, (1, 2, 1)), opened_by(common, some, (1, 1, 0)), clash(common, some), clash(common, some[1:]), clash(common, ())
    (((1, 0, 0), (1, 2, 0)), ((1, 0, 0), (1, 2, 0)), ((1, 0, 0), (1, 2, 0)), None, None)
    >>> is_depths((4, 4, 3)), is_depths((4, 1)), is_key(depths, (3, 3, 3)), is_key(depths, (3, 3, 2)), is_keys(depths, some), is_keys(depths, some[::-1])
    (True, False, False, True, True, False)
    >>> nth_key(depths, 48)
    raises NoNumber(number=48)
"""

DOORS = r"""
    >>> two, far = ((0, 0), (1, 2)), ((1, 2), (2,))
    >>> gate = door_for(two)
    >>> gate, opens(gate, (0, 2)), opens(gate, (2, 0)), pin_that_bars(gate, (2, 1)), pin_that_bars(gate, (0, 1)), how_many_open(gate), how_many_strays(two)
    (((0, 1), (0, 2)), True, False, 0, 1, 4, 2)
    >>> both(gate, far), both(((0,), (0,)), ((1,), (0,))), within(((0,), (0, 2)), gate), within(gate, gate), within(gate, far)
    (((1,), (2,)), None, True, True, False)
    >>> how_many_some((gate, far)), how_many_all((gate, far)), [how_many_just((3, 3), (gate, far), number) for number in range(-1, 4)], how_many_just((3, 3), (far, far), 2)
    (5, 1, [0, 4, 4, 1, 0], 2)
    >>> [nth_opener(gate, number) for number in range(4)], number_of_opener(gate, (1, 0)), number_of_opener(gate, (2, 0)), [nth_of_some((gate, far), number) for number in (3, 4)]
    ([(0, 0), (0, 2), (1, 0), (1, 2)], 2, None, [(1, 2), (2, 2)])
    >>> givers(two, (0, 2)), fewest_makers(((0, 0), (0, 1), (1, 2)), (0, 2)), fewest_makers(two, (2, 2)), fewest_makers(two, (0, 0)), is_door((3, 3), gate), is_door((3, 3), ((0, 3), (1,))), is_door((3, 3), ((0,), ()))
    ((((0, 0),), ((1, 2),)), ((0, 0), (1, 2)), None, ((0, 0),), True, False, False)
    >>> nth_opener(gate, 4)
    raises NoNumber(number=4)
"""

# In the order of the document: an example may use the names of those ahead of it.
SECTIONS = (KEYS, DOORS)
FILES = (cuts, doors)


def steps_of(text):
    """The pairs of what stands behind each prompt and of the line below it, None if there is none."""
    steps = []
    for line in text.strip().splitlines():
        line = line.strip()
        if line.startswith(">>> "):
            steps.append((line[4:], None))
        else:
            steps[-1] = (steps[-1][0], line)
    return steps


def told_error(error):
    """The error as the document writes it."""
    values = ", ".join(f"{name}={value!r}" for name, value in vars(error).items())
    return f"{type(error).__name__}({values})"


def result_of(step, names):
    """What the expression gives, written out, or the error that it raises as the document writes it."""
    try:
        return repr(eval(step, names))
    except (LookupError, ValueError) as error:
        return f"raises {told_error(error)}"


class Examples(unittest.TestCase):

    def test_every_example(self):
        names = {}
        for file in FILES:
            names.update(vars(file))
        for step, expected in [pair for text in SECTIONS for pair in steps_of(text)]:
            if expected is None:
                exec(step, names)
            else:
                with self.subTest(step):
                    self.assertEqual(result_of(step, names), expected)

    def test_all_examples_are_here(self):
        self.assertEqual([len(steps_of(text)) for text in SECTIONS], [8, 8])


if __name__ == "__main__":
    unittest.main()

"""Texts of DEPTHS, KEYS, ROWs, DOORs and plans, there and back."""

from undermasters.basics import is_ascending
from undermasters.cuts import is_depths, is_keys
from undermasters.errors import BadLine, BadText


def depths_text(depths):
    """The text of DEPTHS."""
    return " ".join([str(depth) for depth in depths])


def key_text(key):
    """The text of a KEY."""
    return "-".join([str(cut) for cut in key])


def keys_text(keys):
    """The text of KEYS."""
    return ", ".join([key_text(key) for key in keys]) if len(keys) > 0 else "none"


def row_text(row):
    """The text of a ROW."""
    return "-".join(["*" if cut is None else str(cut) for cut in row])


def door_text(door):
    """The text of a DOOR."""
    return " / ".join([",".join([str(cut) for cut in cuts]) for cuts in door])


def plan_text(depths, common, own):
    """The text of DEPTHS, COMMON KEYS and OWN KEYS, in three lines."""
    return "\n".join([depths_text(depths), keys_text(common), keys_text(own)])


# The functions with _in in their names return None if the text is none of the kind.


def number_in(text):
    """The number from 0 with this text."""
    # other signs than 0 to 9 can be digits, too, as Python tells
    if len(text) == 0 or not all(["0" <= sign <= "9" for sign in text]):
        return None
    return None if text[0] == "0" and len(text) > 1 else int(text)


def all_told(parts):
    """The tuple of these parts; None if one of them is None."""
    return None if any([part is None for part in parts]) else tuple(parts)


def depths_in(text):
    """The DEPTHS with this text."""
    depths = all_told([number_in(part) for part in text.split(" ")])
    return depths if is_depths(depths) else None


def key_in(text):
    """The tuple of numbers with this text."""
    return all_told([number_in(part) for part in text.split("-")])


def keys_in(text):
    """The set of tuples of numbers, all of one length, with this text."""
    if text == "none":
        return ()
    keys = all_told([key_in(part) for part in text.split(", ")])
    if keys is None or not is_ascending(keys):
        return None
    return keys if all([len(key) == len(keys[0]) for key in keys]) else None


def row_in(text):
    """The tuple of numbers and of None with this text."""
    parts = text.split("-")
    cuts = [number_in(part) for part in parts]
    wrong = any([cut is None and part != "*" for cut, part in zip(cuts, parts)])
    return None if wrong else tuple(cuts)


def cut_set_in(text):
    """The set of numbers, not (), with this text."""
    cuts = all_told([number_in(part) for part in text.split(",")])
    return cuts if cuts is not None and is_ascending(cuts) else None


def door_in(text):
    """The tuple of sets of numbers, none of them (), with this text."""
    return all_told([cut_set_in(part) for part in text.split(" / ")])


def unless_none(found):
    """What was found in a text; raises BadText if it is None."""
    if found is None:
        raise BadText()
    return found


def depths_read(text):
    """The DEPTHS with this text; raises BadText."""
    return unless_none(depths_in(text))


def key_read(text):
    """The tuple of one or more numbers from 0 with this text; raises BadText."""
    return unless_none(key_in(text))


def keys_read(text):
    """The set of tuples of numbers from 0, all of one length, with this text; raises BadText."""
    return unless_none(keys_in(text))


def row_read(text):
    """The tuple of one or more numbers from 0 or None with this text; raises BadText."""
    return unless_none(row_in(text))


def door_read(text):
    """The tuple of one or more sets of numbers from 0, none of them (), with this text; raises BadText."""
    return unless_none(door_in(text))


def plan_read(text):
    """The triple (depths, common, own) with this text; raises BadLine for the first line that is wrong or not there."""
    lines = text.split("\n")
    depths = depths_in(lines[0])
    if depths is None:
        raise BadLine(0)
    parts = [depths]
    for number, line in enumerate(lines[1:], start=1):
        keys = keys_in(line)
        if number > 2 or not is_keys(depths, keys) or (number == 1 and keys == ()):
            raise BadLine(number)
        parts.append(keys)
    if len(lines) < 3:
        raise BadLine(len(lines))
    return tuple(parts)

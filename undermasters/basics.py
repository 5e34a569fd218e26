"""What several files need: kinds of values, sets, marks, and the numbers of choices."""


def is_number(thing):
    """Whether thing is a number: an int that is not a bool."""
    return isinstance(thing, int) and not isinstance(thing, bool)


def is_cut(depth, thing):
    """Whether thing is a cut at a pin of so many depths."""
    return is_number(thing) and 0 <= thing < depth


def is_name(thing):
    """Whether thing is a NAME."""
    if not isinstance(thing, str) or not 1 <= len(thing) <= 8:
        return False
    return all(["a" <= sign <= "z" for sign in thing])


def is_pair(thing):
    """Whether thing is a tuple of two."""
    return isinstance(thing, tuple) and len(thing) == 2


def is_ascending(things):
    """Whether each of the things, which can be compared, is less than the next one."""
    return all([one < other for one, other in zip(things, things[1:])])


def as_tuples(thing):
    """The same thing with tuples in the place of all lists, at any depth."""
    if not isinstance(thing, (list, tuple)):
        return thing
    return tuple([as_tuples(part) for part in thing])


def cuts_at(keys, pin):
    """The set of the cuts that these KEYS have at the pin."""
    return tuple(sorted({key[pin] for key in keys}))


def cuts_by_pin(keys):
    """For each pin the set of the cuts that these KEYS, at least one, have there."""
    return tuple([cuts_at(keys, pin) for pin in range(len(keys[0]))])


# Which ones of several things are meant can be told by marks: a number whose bit at k stands for the thing at k.


def all_marked(many):
    """The marks of all of so many things."""
    return (1 << many) - 1


def marked(marks):
    """The ascending list of the places that the marks stand for."""
    places = []
    while marks > 0:
        least = marks & -marks
        places.append(least.bit_length() - 1)
        marks -= least
    return places


def how_many_choices(sizes):
    """In how many ways one thing of so many can be chosen at each place."""
    many = 1
    for size in sizes:
        many = many * size
    return many


def nth_choice(sizes, number):
    """The choice with this number, ascending from 0; there must be one."""
    choice = []
    for size in sizes[::-1]:
        number, place = divmod(number, size)
        choice.append(place)
    return tuple(choice[::-1])


def number_of_choice(sizes, choice):
    """The number of this choice, ascending from 0."""
    number = 0
    for size, place in zip(sizes, choice):
        number = number * size + place
    return number


def place_in(counts, number):
    """Where, with so many things at each place, the one with this number is, and its number there; it must be there."""
    place = 0
    while number >= counts[place]:
        number -= counts[place]
        place += 1
    return (place, number)

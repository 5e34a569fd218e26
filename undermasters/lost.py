"""Lost KEYS of people of a HALL: which rooms they still open, and who must get another KEY so that they open none."""

from undermasters.basics import as_tuples, marked
from undermasters.doors import opens
from undermasters.errors import NoName
from undermasters.halls import door_pinned, key_of
from undermasters.ranks import places_of_greatest


def without_person(hall, person):
    """The HALL of the others, without the rooms that nobody else has; raises NoName if nobody has this NAME."""
    key_of(hall, person)
    people = [pair for pair in hall[1] if pair[0] != person]
    return as_tuples((hall[0], people, rooms_left(hall, person)))


def rooms_left(hall, person):
    """The pairs of each room that somebody else than this person has, and of the NAMEs of all others who have it."""
    pairs = [(room, [name for name in names if name != person]) for room, names in hall[2]]
    return [(room, others) for room, others in pairs if others]


def still_opens(hall, person):
    """The set of the NAMEs of the rooms that the lost KEY opens still; raises NoName if nobody has this NAME."""
    lost = key_of(hall, person)
    return tuple([room for room, others in rooms_left(hall, person) if opens(door_pinned(hall, others), lost)])


def check_names(hall, person, names):
    """Raises NoName if nobody has the NAME person, or for the first one of names that nobody else has."""
    key_of(hall, person)
    others = [name for name, _ in hall[1] if name != person]
    for name in names:
        if name not in others:
            raise NoName(name)


def marks_of_names(hall, names):
    """The marks of the people with these NAMEs."""
    return sum([1 << place for place, (name, _) in enumerate(hall[1]) if name in names])


def marks_to_shut(hall, person):
    """The pairs of each room that somebody else has, and of the marks, for each pin, of who must get another KEY there.

    These are all others who have the room and at the pin the cut of the lost KEY: without them the pin bars it.
    """
    same = [sum([1 << place for place, (_, key) in enumerate(hall[1]) if key[pin] == cut])
            for pin, cut in enumerate(key_of(hall, person))]
    rooms = [(room, marks_of_names(hall, others)) for room, others in rooms_left(hall, person)]
    return [(room, [marks & here for here in same]) for room, marks in rooms]


def is_enough(hall, person, names):
    """Whether names can get such KEYS that the lost one opens no room then; raises NoName."""
    return shut_by(hall, person, names) is not None


def shut_by(hall, person, names):
    """The pairs of each room that the lost KEY opens still, and of the first pin at which it need not, or None."""
    check_names(hall, person, names)
    given = marks_of_names(hall, names)
    pairs = []
    for room, by_pin in marks_to_shut(hall, person):
        pins = [pin for pin, marks in enumerate(by_pin) if marks & ~given == 0]
        if not pins:
            return None
        if 0 not in by_pin:
            pairs.append((room, pins[0]))
    return tuple(pairs)


def fewest_anew(hall, person):
    """The least set of as few NAMEs as can be that are enough; raises NoName if nobody has this NAME."""
    choices = [0]
    for _, by_pin in marks_to_shut(hall, person):
        wanted = least_marks(by_pin)
        choices = sorted({wider for choice in choices for wider in widened(choice, wanted)})
    # the people are ascending, so their places are compared as their NAMEs are
    _, places = min([(len(marked(choice)), marked(choice)) for choice in choices])
    return tuple([hall[1][place][0] for place in places])


def least_marks(by_pin):
    """The different ones of the marks that have no others within them."""
    kept = []
    for marks in sorted(by_pin):
        # what is within marks is not greater as a number
        if not any([each & ~marks == 0 for each in kept]):
            kept.append(marks)
    return kept


def widened(choice, wanted):
    """The choice itself if some of the wanted marks are within it; otherwise it with each of them."""
    if any([marks & ~choice == 0 for marks in wanted]):
        return [choice]
    return [choice | marks for marks in wanted]


def dearest_losses(hall):
    """The set of the NAMEs of those for whose lost KEY fewest_anew has the most NAMEs."""
    names = [name for name, _ in hall[1]]
    many = [len(fewest_anew(hall, name)) for name in names]
    return tuple([names[place] for place in places_of_greatest(many)])


def doors_anew(hall, person, names):
    """The set of the NAMEs of the rooms that somebody else has and that person or one of names has; raises NoName."""
    check_names(hall, person, names)
    touched = [person, *names]
    left = [room for room, _ in rooms_left(hall, person)]
    return tuple([room for room, holders in hall[2]
                  if room in left and any([name in touched for name in holders])])


def cut_anew(hall, person, names):
    """The HALL without this person, in which each of names has the least KEY with no cut of the lost one."""
    check_names(hall, person, names)
    fresh = [1 if cut == 0 else 0 for cut in key_of(hall, person)]
    depths, people, rooms = without_person(hall, person)
    return as_tuples((depths, [(name, fresh if name in names else key) for name, key in people], rooms))

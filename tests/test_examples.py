"""Every example of the document whose promise has landed, as it stands there."""

import unittest

from undermasters import board, changes, commons, covers, cuts, desk, doors, halls, lost, more, most, private, quiet
from undermasters import texts, wings, worn

KEYS = r"""
    >>> depths, common = (4, 4, 3), ((0, 0, 0), (0, 1, 0))
    >>> how_many_keys(depths), nth_key(depths, 47), number_of_key(depths, (3, 3, 2)), nth_key(depths, 0), common_cuts(common)
    (48, (3, 3, 2), 47, (0, 0, 0), ((0,), (0, 1), (0,)))
    >>> free_pins(common, (2, 1, 2)), rank(common, (2, 1, 2)), row_of(common, (2, 1, 2)), row_of(common, (0, 0, 0)), alike(common, (2, 1, 2), (2, 0, 2))
    ((0, 2), 2, (2, None, 2), (None, None, None), True)
    >>> opens_room(common, (2, 1, 0), (2, 3, 2)), opens_room(common, (2, 3, 2), (2, 1, 0)), barring_pin(common, (2, 3, 2), (2, 1, 0)), opens_room(common, (0, 1, 0), (3, 3, 1))
    (True, False, 1, True)
    >>> some = ((1, 0, 0), (1, 2, 0), (2, 2, 1))
    >>> openers_of(common, some, (1, 2, 1)), opened_by(common, some, (1, 1, 0)), clash(common, some), clash(common, some[1:]), clash(common, ())
    (((1, 0, 0), (1, 2, 0)), ((1, 0, 0), (1, 2, 0)), ((1, 0, 0), (1, 2, 0)), None, None)
    >>> is_depths((4, 4, 3)), is_depths((4, 1)), is_key(depths, (3, 3, 3)), is_key(depths, (3, 3, 2)), is_keys(depths, some), is_keys(depths, some[::-1])
    (True, False, False, True, True, False)
    >>> nth_key(depths, 48)
    raises NoNumber(number=48)
"""

DOORS = r"""
    >>> two, far = ((0, 0), (1, 2)), ((1, 2), (2,))
    >>> gate = door_for(two)
    >>> gate, opens(gate, (0, 2)), opens(gate, (2, 0)), pin_that_bars(gate, (2, 1)), pin_that_bars(gate, (0, 1)), how_many_open(gate), how_many_strays(two)
    (((0, 1), (0, 2)), True, False, 0, 1, 4, 2)
    >>> both(gate, far), both(((0,), (0,)), ((1,), (0,))), within(((0,), (0, 2)), gate), within(gate, gate), within(gate, far)
    (((1,), (2,)), None, True, True, False)
    >>> how_many_some((gate, far)), how_many_all((gate, far)), [how_many_just((3, 3), (gate, far), number) for number in range(-1, 4)], how_many_just((3, 3), (far, far), 2)
    (5, 1, [0, 4, 4, 1, 0], 2)
    >>> [nth_opener(gate, number) for number in range(4)], number_of_opener(gate, (1, 0)), number_of_opener(gate, (2, 0)), [nth_of_some((gate, far), number) for number in (3, 4)]
    ([(0, 0), (0, 2), (1, 0), (1, 2)], 2, None, [(1, 2), (2, 2)])
    >>> givers(two, (0, 2)), fewest_makers(((0, 0), (0, 1), (1, 2)), (0, 2)), fewest_makers(two, (2, 2)), fewest_makers(two, (0, 0)), is_door((3, 3), gate), is_door((3, 3), ((0, 3), (1,))), is_door((3, 3), ((0,), ()))
    ((((0, 0),), ((1, 2),)), ((0, 0), (1, 2)), None, ((0, 0),), True, False, False)
    >>> nth_opener(gate, 4)
    raises NoNumber(number=4)
"""

HALLS = r"""
    >>> people = (("ann", (0, 0)), ("bob", (1, 2)), ("cy", (0, 2)), ("dee", (2, 1)))
    >>> hall = ((3, 3), people, (("attic", ("ann", "bob")), ("den", ("cy",)), ("hut", ("bob", "cy", "dee"))))
    >>> door_of(hall, "hut"), who_opens(hall, "attic"), strangers(hall, "attic"), rooms_of(hall, "cy"), strange(hall), is_kept(hall)
    (((0, 1, 2), (1, 2)), ('ann', 'bob', 'cy'), ('cy',), ('attic', 'den', 'hut'), (('cy', 'attic'),), False)
    >>> more = ((3, 3), (*people, ("eve", (2, 2))), hall[2])
    >>> strange(more), with_person(more, "dee", "den")[2][1], new_strangers(more, "dee", "den"), new_strangers(more, "cy", "attic"), is_kept(with_person(hall, "cy", "attic"))
    ((('cy', 'attic'), ('eve', 'hut')), ('den', ('cy', 'dee')), (('eve', 'den'),), (), True)
    >>> closure(hall, ("ann", "bob")), is_closed(hall, ("ann", "bob")), is_closed(hall, ("ann", "cy")), how_many_closed(hall), is_hall(hall), is_hall((hall[0], people, (("den", ()),)))
    (('ann', 'bob', 'cy'), False, True, 13, True, False)
    >>> door_of(hall, "loft")
    raises NoName(name='loft')
"""

MOST = r"""
    >>> lock, master = (4, 4, 4, 4, 4, 4), ((0, 0, 0, 0, 0, 0),)
    >>> rank_sizes(lock, master), most_rooms(lock, master), best_ranks(lock, master), most_without_rows(lock, master, 2), most_without_rows(lock, master, 9)
    ((1, 18, 135, 540, 1215, 1458, 729), 1458, (5,), 2673, 4096)
    >>> pair = ((0, 0, 0, 0, 0, 0), (1, 1, 0, 0, 0, 0))
    >>> rank_sizes(lock, pair), most_rooms(lock, pair), rank_sizes((2, 2, 2), ((0, 1, 0),)), best_ranks((2, 2, 2), ((0, 1, 0),)), rank_sizes((2, 5), ((0, 0), (1, 4)))
    ((1, 16, 106, 372, 729, 756, 324), 756, (1, 3, 3, 1), (1, 2), (1, 3, 0))
    >>> small = (3, 3)
    >>> [nth_room(small, ((0, 0),), 1, number) for number in range(4)], nth_room(small, ((0, 0), (1, 0)), 1, 0), number_of_room(small, ((0, 0), (1, 0)), (1, 2)), nth_room(small, ((0, 0),), 0, 0), rank_rooms(small, ((0, 0),), 2)
    ([(0, 1), (0, 2), (1, 0), (2, 0)], (0, 1), 1, (0, 0), ((1, 1), (1, 2), (2, 1), (2, 2)))
    >>> keys_like(small, ((0, 0), (1, 0)), (1, 2)), how_many_of_rank(small, ((0, 0), (1, 0)), 1), how_many_of_rank(lock, master, 5), one_more_pin(small, ((0, 0),), 3), one_more_pin(small, ((0, 0),), 2)
    (2, 5, 1458, 8, 4)
    >>> nth_room(small, ((0, 0),), 1, 4)
    raises NoNumber(number=4)
"""

QUIET = r"""
    >>> small, zero = (3, 3), ((0, 0),)
    >>> is_quiet(small, zero, ((0, 1), (0, 2), (1, 0))), clashes(small, zero, ((0, 1), (1, 1), (2, 1))), clashes(small, zero, ((0, 0), (1, 2))), least_taken_out(small, zero, ((0, 1), (1, 1), (2, 1))), least_taken_out(small, zero, ((0, 1), (1, 1)))
    (True, [((0, 1), (1, 1)), ((0, 1), (2, 1))], [((0, 0), (1, 2))], ((0, 1),), ((0, 1),))
    >>> clashes(small, ((0, 0), (1, 0)), ((0, 2), (1, 2))), share(small, zero, ((0, 1), (0, 2), (1, 0))), most_more(small, zero, ((0, 1), (0, 2), (1, 0))), most_more(small, zero, ()), share(small, zero, ((0, 2), (1, 1))), share(small, zero, ())
    ([((0, 2), (1, 2)), ((1, 2), (0, 2))], (3, 4), 1, 4, (1, 2), (0, 1))
    >>> is_greatest(small, zero, ((0, 1), (0, 2), (1, 0), (2, 0))), is_greatest(small, zero, ((0, 1), (0, 2), (1, 0))), is_full(small, zero, ((0, 1), (0, 2), (1, 0))), is_full(small, zero, ((0, 0),)), is_full(small, zero, ((0, 1), (0, 2), (1, 0), (2, 0)))
    (True, False, False, True, True)
    >>> ranks_of(small, zero, ((0, 1), (1, 1), (2, 2))), share_of_ranks(small, zero, (0, 2, 2)), can_be_by_share(small, zero, (0, 2, 2)), can_be_by_share(small, zero, (0, 3, 2)), can_be_by_share(small, zero, (1, 0, 0)), can_be_by_share(small, zero, (1, 1, 0))
    ((0, 1, 2), (1, 1), True, False, True, False)
    >>> most_more(small, zero, ((0, 1), (1, 1)))
    raises NotQuiet(one=(0, 1), other=(1, 1))
"""

COVERS = r"""
    >>> common, keys = ((0, 0, 0),), ((1, 0, 0), (1, 2, 0), (1, 2, 1), (2, 0, 1), (2, 3, 1))
    >>> most_quiet(common, keys), len(quiet_among(common, keys)), len(cover_rows(common, keys)), longest_row(common, keys), len(quiet_cover(common, keys))
    (2, 2, 2, ((1, 0, 0), (1, 2, 0), (1, 2, 1)), 3)
    >>> is_opener_row(common, keys, ((1, 0, 0), (1, 2, 1))), is_opener_row(common, keys, ((1, 2, 1), (1, 0, 0))), is_opener_row(common, keys, ()), is_quiet_among(common, keys, ((1, 2, 0), (2, 3, 1))), is_quiet_among(common, keys, ())
    (True, False, False, True, True)
    >>> is_row_cover(common, keys, (((1, 0, 0), (1, 2, 0), (1, 2, 1)), ((2, 0, 1), (2, 3, 1)))), is_quiet_cover(common, keys, (((1, 0, 0), (2, 0, 1)), ((1, 2, 0), (2, 3, 1)), ((1, 2, 1),))), is_row_cover(common, keys, (keys,))
    (True, True, False)
    >>> always_in(common, keys), ever_in(common, keys) == keys, loners(common, keys), always_in(common, keys[1:2]), loners(common, keys[2:4]), most_quiet(common, ()), cover_rows(common, ()), quiet_cover(common, ())
    ((), True, (), ((1, 2, 0),), ((1, 2, 1), (2, 0, 1)), 0, (), ())
    >>> most_quiet(((0, 0), (1, 1)), ((2, 0), (2, 1))), len(longest_row(((0, 0), (1, 1)), ((2, 0), (2, 1)))), is_opener_row(((0, 0), (1, 1)), ((2, 0), (2, 1)), ((2, 1), (2, 0)))
    (1, 2, True)
"""

MORE = r"""
    >>> depths, common, own = (3, 3), ((0, 0),), ((1, 0),)
    >>> how_many_further(depths, common, own), further_ranks(depths, common, own), [nth_further(depths, common, own, number) for number in range(5)], how_many_further(depths, common, ())
    (5, (0, 3, 2), [(0, 1), (0, 2), (2, 0), (2, 1), (2, 2)], 9)
    >>> is_further(depths, common, own, (2, 1)), is_further(depths, common, own, (1, 1)), is_further(depths, common, own, (0, 0)), is_further(depths, common, own, (1, 0)), number_of_further(depths, common, own, (2, 1)), number_of_further(depths, common, own, (1, 1))
    (True, False, False, False, 3, None)
    >>> who_bars(depths, common, own, (1, 1)), who_bars(depths, common, own, (0, 0)), who_bars(depths, common, own, (1, 0)), who_bars(depths, common, own, (2, 1))
    (((), ((1, 0),)), (((1, 0),), ()), (((1, 0),), ((1, 0),)), ((), ()))
    >>> best_addition(depths, common, own), best_addition((2, 2), ((0, 0),), ((1, 1),)), best_addition((2, 2), ((0, 0),), ((0, 1), (1, 0)))
    (((0, 1), 3), None, None)
    >>> wide, master, ones = (10,) * 12, ((0,) * 12,), ((1,) * 12,)
    >>> how_many_further(wide, master, ones), nth_further(wide, master, ones, 0), nth_further(wide, master, ones, 10 ** 11), how_many_further((20,) * 12, ((0,) * 12, (7,) * 12), ())
    (999999995904, (0, 0, 0, 0, 0, 0, 0, 0, 0, 0, 0, 2), (1, 0, 0, 0, 0, 0, 0, 0, 2, 0, 6, 4), 4096000000000000)
    >>> nth_further(depths, common, own, 5)
    raises NoNumber(number=5)
"""

PRIVATE = r"""
    >>> depths, common, own = (3, 3), ((0, 0),), ((1, 0),)
    >>> how_many_harmless(depths, common, own), harmless_ranks(depths, common, own), [nth_harmless(depths, common, own, number) for number in range(7)], how_many_harmless(depths, common, ())
    (7, (0, 3, 4), [(0, 1), (0, 2), (1, 1), (1, 2), (2, 0), (2, 1), (2, 2)], 8)
    >>> is_harmless(depths, common, own, (1, 1)), is_harmless(depths, common, own, (1, 0)), is_harmless(depths, common, (), (0, 0)), number_of_harmless(depths, common, own, (2, 1)), number_of_harmless(depths, common, own, (0, 0))
    (True, False, False, 5, None)
    >>> is_house_closed(depths, common, own, ((1, 1), (2, 1))), breach(depths, common, own, ((1, 1), (2, 1))), breach(depths, common, ((1, 0), (1, 1)), ()), breach(depths, common, ((1, 1),), ((0, 1), (1, 0))), breach(depths, common, (), ((0, 0),)), breach(depths, common, own, own)
    (True, None, ((1, 0), (1, 1)), ((0, 1), (1, 1)), ((0, 0), (0, 0)), ((1, 0), (1, 0)))
    >>> kept_private(depths, common, ((0, 1), (1, 1), (2, 1)), (2, 1)), how_many_harmless((10,) * 12, ((0,) * 12,), ((1,) * 12,)), harmless_ranks((3, 3), ((0, 0),), ((0, 1), (0, 2), (1, 0), (2, 0)))
    (((1, 1),), 999999995904, (0, 0, 4))
    >>> nth_harmless(depths, common, own, 7)
    raises NoNumber(number=7)
"""

WORN = r"""
    >>> depths, common = (9, 9), ((4, 4),)
    >>> sizes(depths, common, (1, 1)), worn_sizes(depths, common, (1, 1)), most_worn(depths, common, (1, 1)), most_worn(depths, common, (0, 0)), sizes(depths, common, (2, 0)), sizes(depths, common, (4, 3)), worn_ranks((5, 3), ((0, 0),), (1, 0))
    ((4, 4), (1, 8, 16), 16, 64, (2, 8), (0, 2), (1, 2))
    >>> opens_worn(((4,),), (1,), (2,), (3,)), opens_worn(((4,),), (1,), (3,), (8,)), opens_worn(((4,),), (1,), (8,), (3,)), worn_bar(common, (1, 1), (4, 0), (4, 2)), worn_bar(common, (1, 1), (4, 0), (0, 1)), worn_rank(common, (1, 1), (3, 0))
    (True, True, False, 1, None, 1)
    >>> own = ((0, 4), (2, 4), (4, 0))
    >>> is_worn_quiet(common, (1, 1), own), is_worn_quiet(common, (2, 0), own), worn_clashes(common, (2, 0), own), wears_to(common, own), worn_share(depths, common, (1, 1), own), worn_rest(depths, common, (1, 1), own), wears_to(common, own[:1]), wears_to(common, ((4, 0), (4, 4)))
    (True, False, (((0, 4), (2, 4)), ((2, 4), (0, 4)), ((2, 4), (4, 0))), 1, (3, 8), 10, None, -1)
    >>> some = tuple([nth_worn(depths, common, (1, 1), 2, number) for number in range(16)])
    >>> is_worn_quiet(common, (1, 1), some), [worn_rank(common, (1, 1), key) for key in some[:3]], number_worn(depths, common, (1, 1), some[5]), number_worn((9,), ((4,),), (1,), (1,)), most_worn((10 ** 6,) * 40, ((0,) * 40,), (9,) * 40) > 10 ** 60 * 10 ** 60 * 10 ** 60
    (True, [2, 2, 2], 5, None, True)
    >>> nth_worn(depths, common, (1, 1), 1, 8)
    raises NoNumber(number=8)
"""

LOST = r"""
    >>> home = ((3, 3), (("ann", (0, 0)), ("bob", (1, 2)), ("cy", (0, 2)), ("dee", (2, 1))), (("attic", ("ann", "bob")), ("den", ("cy",)), ("hut", ("bob", "cy", "dee"))))
    >>> still_opens(home, "cy"), still_opens(home, "dee"), is_enough(home, "cy", ()), is_enough(home, "cy", ("bob",)), is_enough(home, "dee", ()), shut_by(home, "cy", ("bob",)), shut_by(home, "cy", ("dee",)), shut_by(home, "dee", ())
    (('attic',), (), False, True, True, (('attic', 1),), None, ())
    >>> fewest_anew(home, "cy"), fewest_anew(home, "dee"), dearest_losses(home), doors_anew(home, "cy", ("ann",)), without_person(home, "cy")[2]
    (('ann',), (), ('cy',), ('attic', 'hut'), (('attic', ('ann', 'bob')), ('hut', ('bob', 'dee'))))
    >>> cut_anew(home, "cy", ("ann",))[1], still_opens(home, "ann"), still_opens(home, "bob")
    ((('ann', (1, 0)), ('bob', (1, 2)), ('dee', (2, 1))), (), ())
    >>> is_enough(home, "cy", ("cy",))
    raises NoName(name='cy')
"""

COMMONS = r"""
    >>> four, base = (4, 4, 4), ((0, 0, 0),)
    >>> cost_of(four, base, (1, 0, 0)), cost_of(four, base, (1, 1, 1)), costs_nothing(four, base, (0, 0, 0)), cost_of((5, 3), ((0, 0),), (4, 1)), costs_nothing((2, 2, 2, 2), ((0, 0, 0, 0),), (1, 0, 0, 0))
    (6, 15, True, 4, False)
    >>> best_pins(four, base, 1), least_cost(four, base, 2), best_pins((2, 2, 9), base, 1), least_cost((2, 2, 9), base, 1), best_pins((2, 2, 9), base, 4), with_new_at(four, ((0, 0, 0), (0, 1, 2)), (1,)), least_cost(four, base, 0)
    ((0,), 11, (2,), 2, None, (0, 2, 0), 0)
    >>> how_many_fit((3, 3), ((0, 0), (1, 1))), how_many_fit((3, 3), ((0, 0), (0, 1))), nth_fit((3, 3), ((0, 0), (0, 1)), 1), how_many_fit((3, 3), ((0, 0), (0, 1), (1, 0))), nth_fit((3, 3), ((0, 0), (0, 1), (1, 0)), 0), how_many_fit((2, 2), ((0, 0), (0, 1)))
    (7, 3, (1, 2), 1, (2, 2), 0)
    >>> is_fit(((0, 0), (1, 1)), (0, 1)), unfit_pair(((0, 0), (1, 1)), (1, 1)), unfit_pair(((0, 0), (0, 1)), (5, 0)), number_of_fit((3, 3), ((0, 0), (0, 1)), (2, 2)), number_of_fit((3, 3), ((0, 0), (0, 1)), (2, 1))
    (True, ((1, 1), (0, 0)), ((0, 0), (0, 1)), 2, None)
    >>> nth_fit((2, 2), ((0, 0), (0, 1)), 0)
    raises NoNumber(number=0)
"""

WINGS = r"""
    >>> grand = ((0, 0, 0),)
    >>> wings = (("east", ((0, 0, 1),), ((2, 2, 3), (2, 3, 3))), ("west", ((0, 0, 2),), ((3, 2, 3),)))
    >>> are_wings((4, 4, 4), grand, wings), wing_names(wings), room_in(grand, wings, "east", (2, 3, 3)), strays(grand, wings), kept_wings(grand, wings), opened_rooms(grand, wings, (0, 0, 1)), len(opened_rooms(grand, wings, (0, 0, 0)))
    (True, ('east', 'west'), ((0, 2), (0, 3), (0, 1, 3)), (), ('east', 'west'), (('east', (2, 2, 3)), ('east', (2, 3, 3))), 3)
    >>> later = with_room(grand, wings, "west", (2, 2, 1))
    >>> strays(grand, later), kept_wings(grand, later), without_room(later, "west", (2, 2, 1)) == wings, is_open_to(grand, wings, "west", (2, 2, 1)), is_open_to(grand, wings, "west", (3, 3, 3))
    ((((0, 0, 1), 'west', (2, 2, 1)), ((2, 2, 1), 'east', (2, 2, 3))), (), True, False, True)
    >>> most_in((4, 4, 4), grand, wings, "east"), share_in((4, 4, 4), grand, wings, "east"), most_in((4, 4, 4), (), (("east", (), ((1, 1, 1),)),), "east")
    (21, (1, 9), None)
    >>> lone = (("a", (), ((1, 1),)),)
    >>> how_many_open_to((3, 3), ((0, 0),), lone, "a"), [nth_open_to((3, 3), ((0, 0),), lone, "a", number) for number in range(5)], are_wings((3, 3), ((0, 0),), (("a", ((0, 0),), ()),)), are_wings((3, 3), (), lone)
    (5, [(0, 2), (1, 2), (2, 0), (2, 1), (2, 2)], False, True)
    >>> room_in(grand, wings, "north", (2, 2, 3))
    raises NoName(name='north')
    >>> nth_open_to((3, 3), ((0, 0),), lone, "a", 5)
    raises NoNumber(number=5)
"""

CHANGES = r"""
    >>> own = ((1, 0),)
    >>> [next_key((3, 3), ((0, 0),), own, number) for number in (-5, 0, 2, 3, 7, 9)], room_more((3, 3), ((0, 0),), own)
    ([(0, 1), (0, 1), (0, 2), (2, 0), (2, 1), None], (0, 1))
    >>> fresh_for((3, 3), ((0, 0),), own, (1, 0)), nearest_key((3, 3), ((0, 0),), ((0, 1), (1, 0)), (1, 0)), fresh_for((3, 3), ((0, 0),), ((0, 1), (1, 0)), (1, 0))
    ((0, 0), (1, 2), (0, 2))
    >>> next_key((20,) * 12, ((0,) * 12,), ((1,) * 12,), 20 ** 11)
    (1, 0, 0, 0, 0, 0, 0, 0, 0, 0, 0, 2)
    >>> recut(((1, 0), (2, 2)), 0, (0, 2, 1)), reordered(((1, 0, 2),), (2, 0, 1)), with_pin(((1, 0),), 1, 7), room_more((2, 2), ((0, 0),), ((0, 1), (1, 0)))
    (((1, 2), (2, 0)), ((2, 1, 0),), ((1, 7, 0),), None)
    >>> fresh_for((3, 3), ((0, 0),), own, (2, 2))
    raises NoKey(key=(2, 2))
"""

BOARD = r"""
    >>> board = Board((4, 4, 3), ((0, 0, 0),))
    >>> board.put((1, 2, 0)), board.put((2, 0, 1)), board.own(), len(board), [1, 2, 0] in board, board.deeds(), board.common()
    (None, None, ((1, 2, 0), (2, 0, 1)), 2, True, 2, ((0, 0, 0),))
    >>> board.change((2, 0, 1), (0, 3, 1)), board.own(), board.take_out((1, 2, 0)), board.undo(), board.undo(), board.own()
    (None, ((0, 3, 1), (1, 2, 0)), None, None, None, ((1, 2, 0), (2, 0, 1)))
    >>> board.put((1, 0, 0))
    raises NotQuiet(one=(1, 0, 0), other=(1, 2, 0))
    >>> board.put((2, 0, 1))
    raises Twice(key=(2, 0, 1))
    >>> board.twin() == board, board == Board((4, 4, 3), ((0, 0, 0),)), board.deeds()
    (True, False, 2)
"""

TEXTS = r"""
    >>> depths_text((4, 4, 3)), key_text((1, 2, 0)), keys_text(((1, 2, 0), (2, 0, 1))), keys_text(()), row_text((2, None, 0)), door_text(((0, 1), (2,), (0, 2)))
    ('4 4 3', '1-2-0', '1-2-0, 2-0-1', 'none', '2-*-0', '0,1 / 2 / 0,2')
    >>> depths_read("4 4 3"), key_read("1-2-0"), keys_read("1-2-0, 2-0-1"), keys_read("none"), row_read("2-*-0"), row_read("*"), door_read("0,1 / 2 / 0,2")
    ((4, 4, 3), (1, 2, 0), ((1, 2, 0), (2, 0, 1)), (), (2, None, 0), (None,), ((0, 1), (2,), (0, 2)))
    >>> plan_read(plan_text((4, 4, 3), ((0, 0, 0),), ((1, 2, 0), (2, 0, 1)))) == ((4, 4, 3), ((0, 0, 0),), ((1, 2, 0), (2, 0, 1)))
    True
    >>> keys_read("2-0-1, 1-2-0")
    raises BadText()
    >>> plan_read("3 3\n0-0\n1-3")
    raises BadLine(number=2)
    >>> plan_read("3 3\n0-0")
    raises BadLine(number=2)
"""

DESK = r"""
    >>> replies((4, 4, 3), ((0, 0, 0),), "put 1-2-0\nput 2-0-1\nown\nmany\nshare\nmore\nput 1-0-0\nput 2-0-1\nout 3-3-2\nclash 1-0-0\nchange 2-0-1 0-3-1\nown\nundo\nown\nundo\nundo\nundo\nown")
    ['done', 'done', '1-2-0, 2-0-1', '2', '2/21', '19', 'refused NotQuiet', 'refused Twice', 'refused NoKey', '1-2-0', 'done', '0-3-1, 1-2-0', 'done', '1-2-0, 2-0-1', 'done', 'done', 'refused NothingDone', 'none']
    >>> replies((4, 4, 3), ((0, 0, 0),), "sizes\nmost\nroom 2 0\nroom 2 20\nroom 2 21\nrank 1-0-2\nopens 1-0-0 1-2-0\nopens 1-2-0 1-0-0\nalike 1-0-0 1-0-0\nshare\nmore\nclash 0-0-0")
    ['1 8 21 18', '21', '0-1-1', '3-3-0', 'refused NoNumber', '2', 'yes', 'no', 'yes', '0/1', '21', 'none']
    >>> is_request((4, 4, 3), "put 1-2-0"), is_request((4, 4, 3), "put 1-2-3"), is_request((4, 4, 3), "put 1-2"), is_request((4, 4, 3), "room 4 0"), is_request((4, 4, 3), "undo "), replies((2,), ((0,),), "")
    (True, False, False, False, False, [])
    >>> replies((4, 4, 3), ((0, 0, 0),), "own\nput 4-0-0")
    raises BadLine(number=1)
"""

# In the order of the document: an example may use the names of those ahead of it.
SECTIONS = (KEYS, DOORS, HALLS, MOST, QUIET, COVERS, MORE, PRIVATE, WORN, LOST, COMMONS, WINGS, CHANGES, BOARD, TEXTS, DESK)
FILES = (cuts, doors, halls, most, quiet, covers, more, private, worn, lost, commons, wings, changes, board, texts, desk)


def steps_of(text):
    """The pairs of what stands behind each prompt and of the line below it, None if there is none."""
    steps = []
    for line in text.strip().splitlines():
        line = line.strip()
        if line.startswith(">>> "):
            steps.append((line[4:], None))
        else:
            steps[-1] = (steps[-1][0], line)
    return steps


def told_error(error):
    """The error as the document writes it."""
    values = ", ".join(f"{name}={value!r}" for name, value in vars(error).items())
    return f"{type(error).__name__}({values})"


def result_of(step, names):
    """What the expression gives, written out, or the error that it raises as the document writes it."""
    try:
        return repr(eval(step, names))
    except (LookupError, ValueError) as error:
        return f"raises {told_error(error)}"


class Examples(unittest.TestCase):

    def test_every_example(self):
        names = {}
        for file in FILES:
            names.update(vars(file))
        for step, expected in [pair for text in SECTIONS for pair in steps_of(text)]:
            if expected is None:
                exec(step, names)
            else:
                with self.subTest(step):
                    self.assertEqual(result_of(step, names), expected)

    def test_all_examples_are_here(self):
        self.assertEqual([len(steps_of(text)) for text in SECTIONS], [8, 8, 7, 8, 6, 6, 8, 6, 8,
                                                                   5, 6, 10, 6, 6, 6, 4])


if __name__ == "__main__":
    unittest.main()

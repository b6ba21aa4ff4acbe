"""The calls 6 to 10 at ordinary inputs, at the edges, and at what is refused: all through `answers`."""

import unittest

from asking import (NO_SUCH, TOP, as_list, ask, begin, full_house, last, meet, move, out, put, row, same, spots, tell,
                    waits)
from manyhandssheet.desks import answers


class Alone(unittest.TestCase):
    def test_the_first_and_only_call(self):
        self.assertEqual(answers([6, 0, 0]), [3, 0, 0, 0])
        self.assertEqual(answers([7, 0]), [1, 0])
        self.assertEqual(answers([8, 0]), [1, 0])
        self.assertEqual(answers([9, 0]), [1, 0])
        self.assertEqual(answers([10, 0, 0]), [2, 1, 1])

    def test_the_first_and_only_call_refused(self):
        for calls in ([6, 0, 1], [6, 1, 0], [7, 1], [8, 1], [9, 1], [10, 0, 1], [10, 1, 0]):
            self.assertEqual(answers(calls), [1, -2])


class Mixed(unittest.TestCase):
    def test_all_ten_with_one_desk(self):
        steps = [
            (put(0, 0), [0, 0]), (put(0, 1), [1, 1]), (put(0, 1), [2, 2]),
            (row(0), [3, 0, 2, 1]), (spots(0), [3, 0, 2, 1]), (waits(0), [0]),
            (move(0, 0, 2), [3]), (row(0), [3, 2, 1, 0]), (spots(0), [4, 0, 2, 1, 3]),
            (out(0, 1), [4]), (row(0), [2, 2, 0]), (spots(0), [4, 0, 2, 1, 3]), (waits(0), [0]),
            (tell(4, 0), [5, 1]), (meet(0, 0), [5, 0, 0]), (same(0, 0), [1, 1]),
            (meet(0, 1), [-2]), (same(1, 0), [-2]), (row(1), [-2]),
            (begin(1), [0]), (row(0), [0]), (spots(0), [0]), (waits(0), [0]), (meet(0, 0), [0, 0, 0]),
        ]
        self.assertEqual(ask(*[call for call, answer in steps]), [answer for call, answer in steps])

    def test_all_ten_with_several_desks(self):
        steps = [
            (begin(3), [0]), (put(0, 0), [0, 0]), (put(0, 1), [1, 1]), (put(1, 0), [2, 2]), (put(1, 1), [3, 3]),
            (same(0, 1), [0, 0]), (meet(0, 1), [4, 2, 2]), (same(0, 1), [1, 1]),
            # The runs of desk 0 and of desk 1, both at the beginning: the lesser desk's is ahead.
            (row(0), [4, 0, 1, 2, 3]), (row(1), [4, 0, 1, 2, 3]), (row(2), [0]),
            (move(1, 0, 3), [4]), (row(1), [4, 1, 2, 3, 0]), (spots(1), [5, 0, 1, 2, 3, 4]),
            (tell(4, 2), [1, 0]), (tell(3, 2), [2, 0]), (waits(2), [2, 3, 4]), (spots(2), [0]), (row(2), [0]),
            (tell(2, 2), [3, 1]), (waits(2), [0]), (spots(2), [3, 2, 3, 4]), (row(2), [3, 2, 3, 0]),
            (out(0, 2), [5]), (row(0), [3, 0, 1, 3]), (same(0, 1), [0, 0]),
            (meet(2, 0), [6, 3, 1]), (row(2), [3, 1, 3, 0]), (same(0, 2), [1, 1]), (same(1, 2), [0, 0]),
            (tell(5, 1), [6, 1]), (same(1, 2), [1, 1]), (meet(1, 2), [6, 0, 0]), (spots(1), [5, 0, 1, 2, 3, 4]),
            (begin(2), [0]), (row(2), [-2]), (same(0, 1), [1, 1]), (meet(1, 0), [0, 0, 0]),
        ]
        self.assertEqual(ask(*[call for call, answer in steps]), [answer for call, answer in steps])

    def test_whole_numbers_in_a_list(self):
        found = answers(as_list([begin(2), put(0, 0), put(0, 1), tell(1, 1), waits(1), same(0, 1), meet(0, 1),
                                 same(0, 1), row(1), spots(1), waits(1), same(0, 2)]))
        self.assertIs(type(found), list)
        self.assertEqual({type(number) for number in found}, {int})

    def test_what_is_handed_in_stays_and_nothing_is_kept(self):
        calls = as_list([begin(2), put(0, 0), tell(0, 1), put(1, 0), meet(0, 1), row(0), spots(1), waits(0),
                         same(0, 1)])
        before = list(calls)
        first = answers(calls)
        kept = list(first)
        self.assertEqual(calls, before)
        first.append(7)
        self.assertEqual(answers([7, 0, 8, 0, 9, 0]), [1, 0, 1, 0, 1, 0])
        self.assertEqual(answers(calls), kept)
        self.assertEqual(calls, before)


class Meet(unittest.TestCase):
    # Desk 0 knows the deeds 0 and 1, desk 1 the deed 2, desk 2 nothing.
    house = [begin(3), put(0, 0), put(0, 1), put(1, 0)]

    def known_alike(self, calls, desk, other):
        looks = [one(who) for one in (row, spots, waits) for who in (desk, other)]
        found = ask(*calls, same(desk, other), *looks)[len(calls):]
        self.assertEqual(found[0], [1, 1])
        self.assertEqual(found[1::2], found[2::2])
        return found[1::2]

    def test_both_know_nothing(self):
        self.assertEqual(ask(begin(2), meet(0, 1), meet(1, 0)), [[0], [0, 0, 0], [0, 0, 0]])
        self.assertEqual(self.known_alike([begin(2), meet(0, 1)], 0, 1), [[0], [0], [0]])

    def test_one_knows_nothing(self):
        self.assertEqual(last(*self.house, meet(0, 2)), [2, 0, 2])
        self.assertEqual(last(*self.house, meet(2, 0)), [2, 2, 0])
        for call in (meet(0, 2), meet(2, 0)):
            self.assertEqual(self.known_alike([*self.house, call], 0, 2), [[2, 0, 1], [2, 0, 1], [0]])

    def test_one_knows_all_that_the_other_knows(self):
        calls = [*self.house, tell(0, 1), tell(1, 1)]
        self.assertEqual(last(*calls, meet(0, 1)), [3, 1, 0])
        self.assertEqual(last(*calls, meet(1, 0)), [3, 0, 1])
        for call in (meet(0, 1), meet(1, 0)):
            self.assertEqual(self.known_alike([*calls, call], 0, 1), [[3, 0, 1, 2], [3, 0, 1, 2], [0]])

    def test_each_knows_what_the_other_does_not(self):
        self.assertEqual(last(*self.house, meet(0, 1)), [3, 1, 2])
        self.assertEqual(last(*self.house, meet(1, 0)), [3, 2, 1])
        for call in (meet(0, 1), meet(1, 0)):
            self.assertEqual(self.known_alike([*self.house, call], 0, 1), [[3, 0, 1, 2], [3, 0, 1, 2], [0]])

    def test_what_both_know_is_not_learned(self):
        self.assertEqual(last(*self.house, tell(0, 1), meet(0, 1)), [3, 1, 1])
        self.assertEqual(last(*self.house, meet(0, 1), meet(0, 1)), [3, 0, 0])
        self.assertEqual(last(*self.house, meet(0, 1), put(0, 0), meet(1, 0)), [4, 1, 0])

    def test_itself(self):
        for desk, expected in ((0, [2, 0, 0]), (1, [1, 0, 0]), (2, [0, 0, 0])):
            calls = [*self.house, meet(desk, desk)]
            self.assertEqual(last(*calls), expected)
            looks = [one(who) for one in (row, spots, waits) for who in (0, 1, 2)]
            self.assertEqual(ask(*calls, *looks)[len(calls):], ask(*self.house, *looks)[len(self.house):])

    def test_the_others_learn_nothing(self):
        self.assertEqual(ask(*self.house, meet(0, 1), row(2), spots(2), waits(2))[-3:], [[0]] * 3)

    def test_what_is_done_behind_it_is_ones_own(self):
        calls = [*self.house, meet(0, 1), put(0, 0), out(1, 2)]
        self.assertEqual(ask(*calls, row(0), row(1), same(0, 1))[-3:], [[4, 3, 0, 1, 2], [2, 0, 1], [0, 0]])
        self.assertEqual(ask(*calls, meet(1, 0), row(0), row(1))[-3:], [[5, 1, 1], [3, 3, 0, 1], [3, 3, 0, 1]])

    def test_word_goes_on_from_desk_to_desk(self):
        calls = [begin(8)] + [put(desk, 0) for desk in range(8)]
        found = ask(*calls, *[meet(desk, desk + 1) for desk in range(7)], row(7), row(0))
        self.assertEqual(found[9:16], [[desk + 2, 1, desk + 1] for desk in range(7)])
        self.assertEqual(found[16:], [[8, 0, 1, 2, 3, 4, 5, 6, 7], [2, 0, 1]])

    def test_what_waits_is_handed_on(self):
        calls = [*self.house, tell(1, 2), meet(2, 1)]
        self.assertEqual(last(*calls), [2, 1, 1])
        self.assertEqual(self.known_alike(calls, 1, 2), [[1, 2], [1, 2], [1, 1]])
        # Desk 1 lacks what the deed 1 hangs on, and desk 0 has it.
        self.assertEqual(self.known_alike([*calls, meet(1, 0)], 0, 1), [[3, 0, 1, 2], [3, 0, 1, 2], [0]])

    def test_counts_go_on_above_what_is_learned(self):
        # Both put one behind thing 0. Behind the meeting both have the count 3, so desk 0's is ahead of desk 1's.
        calls = [begin(3), put(0, 0), put(0, 1), meet(1, 0), put(1, 1), put(0, 1), meet(0, 1), row(0)]
        self.assertEqual(last(*calls), [4, 0, 3, 2, 1])
        self.assertEqual(last(*calls[:-1], out(0, 0), move(1, 0, 0), meet(0, 1), row(1)), [4, 0, 3, 2, 1])

    def test_in_a_full_house(self):
        calls = full_house(2)
        self.assertEqual(ask(*calls, meet(1, 0), meet(1, 0))[-2:], [[120, 120, 0], [120, 0, 0]])
        self.assertEqual(ask(*calls, tell(119, 1), meet(0, 1), row(1))[-2:], [[120, 0, 119], [120, *range(120)]])

    def test_refused_with_either_desk_missing(self):
        for desk, other in ((0, 3), (3, 0), (3, 3), (3, 4), (0, TOP), (TOP, 0), (TOP, TOP)):
            self.assertEqual(ask(*self.house, meet(desk, other), row(0), row(1), row(2))[4:],
                             [NO_SUCH, [2, 0, 1], [1, 2], [0]])


class Row(unittest.TestCase):
    three = [begin(2), put(0, 0), put(0, 1), put(0, 2)]

    def test_an_empty_desk(self):
        self.assertEqual(ask(*self.three, row(1), row(0))[4:], [[0], [3, 0, 1, 2]])

    def test_places(self):
        calls = [put(0, i) for i in (0, 1, 1, 0, 3, 5, 1)]
        expected = [[0], [0, 1], [0, 2, 1], [3, 0, 2, 1], [3, 0, 2, 4, 1], [3, 0, 2, 4, 1, 5], [3, 6, 0, 2, 4, 1, 5]]
        for done, things in enumerate(expected):
            self.assertEqual(last(*calls[:done + 1], row(0)), [len(things), *things])

    def test_moved(self):
        for thing, i, things in ((0, 0, [0, 1, 2]), (0, 1, [1, 0, 2]), (0, 2, [1, 2, 0]), (1, 0, [1, 0, 2]),
                                 (1, 1, [0, 1, 2]), (1, 2, [0, 2, 1]), (2, 0, [2, 0, 1]), (2, 1, [0, 2, 1])):
            self.assertEqual(last(*self.three, move(0, thing, i), row(0)), [3, *things])

    def test_taken_out(self):
        calls = [*self.three, out(0, 1)]
        self.assertEqual(last(*calls, row(0)), [2, 0, 2])
        self.assertEqual(last(*calls, out(0, 0), out(0, 2), row(0)), [0])
        self.assertEqual(last(*calls, put(0, 1), row(0)), [3, 0, 3, 2])

    def test_things_are_told_not_deeds(self):
        calls = [begin(2), put(0, 0), move(0, 0, 0), put(0, 1), move(0, 1, 0)]
        self.assertEqual(last(*calls, row(0)), [2, 1, 0])

    def test_each_at_its_own_desk(self):
        calls = [*self.three, tell(0, 1), out(1, 0), put(1, 0)]
        self.assertEqual(ask(*calls, row(0), row(1))[-2:], [[3, 0, 1, 2], [1, 3]])

    def test_taken_out_ahead_of_any_word_of_it(self):
        calls = [*self.three, out(0, 0), tell(3, 1), row(1), tell(0, 1), row(1), tell(1, 1), row(1)]
        self.assertEqual(ask(*calls)[6::2], [[0], [0], [1, 1]])

    def test_a_move_that_waits_leaves_the_thing_where_it_was(self):
        # The move goes behind thing 2, so its spot hangs on the deeds 2, 1 and 0.
        calls = [*self.three, move(0, 0, 2), tell(0, 1), tell(1, 1), tell(3, 1), row(1), tell(2, 1), row(1)]
        self.assertEqual(ask(*calls)[-3:], [[2, 0, 1], [4, 1], [3, 1, 2, 0]])

    def test_moved_at_two_desks_at_once_it_is_there_once(self):
        calls = [*self.three, meet(0, 1), move(0, 0, 2), move(1, 0, 1), row(0), row(1), meet(0, 1), row(0), row(1)]
        self.assertEqual(ask(*calls)[-5:], [[3, 1, 2, 0], [3, 1, 0, 2], [5, 1, 1], [3, 1, 0, 2], [3, 1, 0, 2]])

    def test_runs_put_in_at_one_place_at_the_same_time(self):
        calls = [begin(2), put(0, 0), put(0, 1), meet(0, 1)]
        forward = [put(desk, i) for i in (1, 2, 3) for desk in (0, 1)]
        backward = [put(desk, 1) for _ in range(3) for desk in (0, 1)]
        self.assertEqual(last(*calls, *forward, meet(1, 0), row(1)), [8, 0, 2, 4, 6, 3, 5, 7, 1])
        self.assertEqual(last(*calls, *backward, meet(1, 0), row(1)), [8, 0, 6, 4, 2, 7, 5, 3, 1])

    def test_as_long_as_can_be(self):
        self.assertEqual(last(*full_house(), row(0)), [120, *range(120)])
        self.assertEqual(last(*[put(0, 0)] * 120, row(0)), [120, *range(119, -1, -1)])

    def test_refused(self):
        for desk in (2, 3, TOP):
            self.assertEqual(last(*self.three, row(desk)), NO_SUCH)


class Spots(unittest.TestCase):
    three = [begin(3), put(0, 0), put(0, 1), put(0, 2)]

    def test_an_empty_desk(self):
        self.assertEqual(ask(*self.three, spots(1), spots(0))[4:], [[0], [3, 0, 1, 2]])

    def test_deeds_are_told_not_things(self):
        self.assertEqual(last(put(0, 0), move(0, 0, 0), put(0, 1), row(0)), [2, 0, 1])
        self.assertEqual(last(put(0, 0), move(0, 0, 0), put(0, 1), spots(0)), [3, 1, 2, 0])

    def test_at_which_nothing_is_any_more(self):
        calls = [*self.three, move(0, 0, 2)]
        self.assertEqual(last(*calls, spots(0)), [4, 0, 1, 2, 3])
        calls = [*self.three, out(0, 1)]
        self.assertEqual(last(*calls, spots(0)), [3, 0, 1, 2])
        calls = [*self.three, out(0, 1), out(0, 0), out(0, 2)]
        self.assertEqual(ask(*calls, spots(0), row(0))[-2:], [[3, 0, 1, 2], [0]])
        # A new spot is right behind the one ahead of it, and ahead of that at which nothing is.
        self.assertEqual(last(*self.three, out(0, 1), put(0, 1), spots(0)), [4, 0, 4, 1, 2])

    def test_one_that_waits_is_told_once_what_it_hangs_on_is_known(self):
        calls = [*self.three, tell(2, 1), spots(1), tell(1, 1), spots(1), tell(0, 1), spots(1)]
        self.assertEqual(ask(*calls)[5::2], [[0], [0], [3, 0, 1, 2]])

    def test_some_wait_and_some_do_not(self):
        calls = [*self.three, tell(0, 1), tell(2, 1)]
        self.assertEqual(ask(*calls, spots(1), waits(1))[-2:], [[1, 0], [1, 2]])

    def test_left_and_right_in_the_order_of_stamps(self):
        # At the beginning, of the count 1: desk 2's deed 0, desk 1's deed 1, desk 0's deed 2.
        calls = [begin(3), put(2, 0), put(1, 0), put(0, 0), meet(0, 1), meet(1, 2), meet(0, 2)]
        self.assertEqual(last(*calls, spots(0)), [3, 2, 1, 0])
        # Each desk puts one ahead of all (to the left of deed 2) and then one behind deed 2 (to the left of deed 1,
        # since that comes next).
        more = [put(desk, i) for desk, i in ((2, 0), (1, 0), (0, 0), (2, 2), (1, 2), (0, 2))]
        met = [meet(0, 1), meet(1, 2), meet(0, 2)]
        for desk in (0, 1, 2):
            self.assertEqual(last(*calls, *more, *met, spots(desk)), [9, 5, 4, 3, 2, 8, 7, 6, 1, 0])

    def test_a_lesser_count_is_ahead_whatever_the_desk(self):
        # At deed 0, to its right: desk 0's deed 3 has the count 3, desk 1's deed 2 the count 2.
        calls = [begin(2), put(0, 0), tell(0, 1), put(0, 0), put(1, 1), put(0, 2), meet(0, 1)]
        self.assertEqual(last(*calls, spots(0)), [4, 1, 0, 2, 3])

    def test_the_order_of_word_does_not_matter(self):
        calls = [*self.three, put(1, 0), put(1, 1), meet(0, 1), put(0, 2), move(1, 1, 0), out(0, 3), meet(0, 1)]
        whole = last(*calls, spots(0))
        for order in ((0, 1, 2, 3, 4, 5, 6, 7), (7, 6, 5, 4, 3, 2, 1, 0), (5, 0, 7, 2, 5, 1, 4, 6, 3)):
            told = [tell(deed, 2) for deed in order]
            self.assertEqual(ask(*calls, *told, spots(2), waits(2), same(0, 2))[-3:], [whole, [0], [1, 1]])

    def test_no_two_turn_round_as_word_comes(self):
        calls = [*self.three, put(1, 0), put(1, 1), meet(0, 1), put(0, 2), put(1, 2), move(1, 1, 0), meet(0, 1)]
        whole = last(*calls, spots(0))[1:]
        for order in ((0, 1, 2, 3, 4, 5, 6, 7), (7, 6, 5, 4, 3, 2, 1, 0), (5, 0, 7, 2, 1, 4, 6, 3)):
            heard = [one for deed in order for one in (tell(deed, 2), spots(2))]
            for found in ask(*calls, *heard)[len(calls) + 1::2]:
                self.assertEqual(found[1:], [number for number in whole if number in found[1:]])

    def test_as_many_as_can_be(self):
        self.assertEqual(last(*full_house(), spots(0)), [120, *range(120)])
        self.assertEqual(last(*[put(0, 0)] + [move(0, 0, 0)] * 119, spots(0)), [120, *range(119, -1, -1)])

    def test_refused(self):
        for desk in (3, 4, TOP):
            self.assertEqual(last(*self.three, spots(desk)), NO_SUCH)


class Waits(unittest.TestCase):
    three = [begin(3), put(0, 0), put(0, 1), put(0, 2)]

    def test_an_empty_desk(self):
        self.assertEqual(ask(*self.three, waits(1), waits(0))[4:], [[0], [0]])

    def test_until_what_it_hangs_on_is_known(self):
        calls = [*self.three, tell(2, 1), waits(1), tell(1, 1), waits(1), tell(0, 1), waits(1)]
        self.assertEqual(ask(*calls)[5::2], [[1, 2], [2, 1, 2], [0]])

    def test_it_hangs_on_all_up_to_the_beginning(self):
        calls = [*self.three, tell(2, 1), waits(1), tell(0, 1), waits(1), tell(1, 1), waits(1)]
        self.assertEqual(ask(*calls)[5::2], [[1, 2], [1, 2], [0]])

    def test_to_the_left_of_what_is_not_known(self):
        calls = [begin(2), put(0, 0), put(0, 0), tell(1, 1), waits(1), tell(0, 1), waits(1), row(1)]
        self.assertEqual(ask(*calls)[4:], [[1, 1], [2, 1], [0], [2, 1, 0]])

    def test_a_move_waits(self):
        calls = [*self.three, move(0, 0, 2), tell(0, 1), tell(3, 1), waits(1)]
        self.assertEqual(last(*calls), [1, 3])

    def test_one_at_the_beginning_never_waits(self):
        self.assertEqual(last(*self.three, put(1, 0), tell(3, 2), waits(2)), [0])

    def test_one_that_takes_out_never_waits(self):
        calls = [*self.three, out(0, 2), tell(3, 1)]
        self.assertEqual(ask(*calls, waits(1), spots(1))[-2:], [[0], [0]])
        self.assertEqual(ask(*calls, tell(2, 1), waits(1), spots(1))[-2:], [[1, 2], [0]])

    def test_the_earliest_stamp_first_not_the_lesser_number(self):
        # Both of the count 2, at a deed that desk 2 doesn't know: desk 1's is done first, desk 0's is earlier.
        calls = [begin(3), put(0, 0), tell(0, 1), put(1, 1), put(0, 1)]
        for order in ((1, 2), (2, 1)):
            self.assertEqual(last(*calls, *[tell(deed, 2) for deed in order], waits(2)), [2, 2, 1])

    def test_the_lesser_count_first_whatever_the_desk(self):
        # Desk 0's deeds have the counts 2 and 3 (numbers 1 and 2), desk 1's the counts 2 and 3 (numbers 3 and 4).
        calls = [begin(3), put(0, 0), tell(0, 1), put(0, 1), put(0, 2), put(1, 1), put(1, 2)]
        for order in ((1, 2, 3, 4), (4, 3, 2, 1), (2, 4, 1, 3)):
            self.assertEqual(last(*calls, *[tell(deed, 2) for deed in order], waits(2)), [4, 1, 3, 2, 4])

    def test_as_many_as_can_be(self):
        # More don't fit into 200 calls: each is told by itself, since a meeting tells of all.
        calls = [*full_house(2), *[tell(deed, 1) for deed in range(119, 41, -1)], waits(1)]
        self.assertEqual(len(calls), 200)
        self.assertEqual(last(*calls), [78, *range(42, 120)])

    def test_refused(self):
        for desk in (3, 4, TOP):
            self.assertEqual(last(*self.three, waits(desk)), NO_SUCH)


class Same(unittest.TestCase):
    two = [begin(3), put(0, 0), put(0, 1)]

    def both_ways(self, calls, expected, desk=0, other=1):
        self.assertEqual(ask(*calls, same(desk, other), same(other, desk))[-2:], [expected, expected])

    def test_both_know_nothing(self):
        self.both_ways([begin(2)], [1, 1])
        self.both_ways(self.two, [1, 1], 1, 2)

    def test_the_same_deeds_in_another_order(self):
        self.both_ways([*self.two, tell(1, 1), tell(0, 1)], [1, 1])
        self.both_ways([*self.two, tell(0, 1), tell(1, 1)], [1, 1])
        self.both_ways([*self.two, put(1, 0), tell(0, 1), tell(1, 1), tell(2, 0)], [1, 1])

    def test_the_same_deeds_that_wait(self):
        self.both_ways([*self.two, tell(1, 1), tell(1, 2)], [1, 1], 1, 2)

    def test_other_deeds_and_the_same_row(self):
        # Both rows are empty: at desk 0 all is taken out.
        self.both_ways([begin(2), put(0, 0), out(0, 0)], [0, 1])
        # A move that leaves the thing where it was.
        self.both_ways([*self.two, meet(0, 1), move(0, 0, 0)], [0, 1])
        # One more that waits.
        self.both_ways([*self.two, tell(1, 1)], [0, 1], 1, 2)
        # Each has moved the thing to the same place: as many deeds, and other ones.
        self.both_ways([*self.two, meet(0, 1), move(0, 0, 1), move(1, 0, 1)], [0, 1])

    def test_other_deeds_and_another_row(self):
        self.both_ways(self.two, [0, 0])
        self.both_ways([*self.two, tell(0, 1)], [0, 0])
        # As many deeds, and as many things.
        self.both_ways([begin(2), put(0, 0), put(1, 0)], [0, 0])
        # The same things in another order.
        self.both_ways([*self.two, meet(0, 1), move(0, 0, 1)], [0, 0])

    def test_itself(self):
        for desk in (0, 1, 2):
            self.assertEqual(last(*self.two, tell(1, 1), same(desk, desk)), [1, 1])

    def test_apart_and_together_again(self):
        calls = [*self.two, meet(0, 1), same(0, 1), put(1, 2), same(0, 1), tell(2, 0), same(0, 1)]
        self.assertEqual([ask(*calls)[k] for k in (4, 6, 8)], [[1, 1], [0, 0], [1, 1]])

    def test_refused_with_either_desk_missing(self):
        for desk, other in ((0, 3), (3, 0), (3, 3), (3, 4), (0, TOP), (TOP, 0), (TOP, TOP)):
            self.assertEqual(last(*self.two, same(desk, other)), NO_SUCH)


class BehindARefusal(unittest.TestCase):
    def test_all_is_as_it_was(self):
        calls = [begin(3), put(0, 0), put(1, 0), tell(0, 1), put(1, 2), put(0, 1), row(0), meet(0, 1), spots(1),
                 move(0, 0, 2), out(1, 1), tell(4, 2), waits(2), same(0, 1), meet(2, 0), row(2), spots(2), waits(2),
                 put(2, 1), same(2, 0), row(2)]
        refused = [meet(0, 3), meet(3, 0), meet(3, 3), meet(0, TOP), meet(TOP, 1), row(3), row(TOP), spots(3),
                   spots(TOP), waits(3), waits(TOP), same(0, 3), same(3, 0), same(3, 3), same(0, TOP), same(TOP, 0)]
        plain = ask(*calls)
        for between in refused:
            mixed = [calls[0]] + [one for call in calls[1:] for one in (between, call)] + [between]
            found = ask(*mixed)
            self.assertEqual(found[::2], plain)
            self.assertEqual(found[1::2], [NO_SUCH] * len(calls))


class BigNumbers(unittest.TestCase):
    def test_wherever_a_number_is_handed_in(self):
        house = [begin(2), put(0, 0), put(0, 1), tell(1, 1)]
        looks = [one(desk) for one in (row, spots, waits) for desk in (0, 1)]
        plain = ask(*house, *looks)[len(house):]
        for big in (2 ** 32, 2 ** 63 - 1, 2 ** 63, TOP - 1, TOP):
            tried = [(begin(big), -1), (put(big, 0), -2), (put(0, big), -1), (move(big, 0, 0), -2),
                     (move(0, big, 0), -3), (move(0, 0, big), -1), (out(big, 0), -2), (out(0, big), -3),
                     (tell(big, 0), -2), (tell(0, big), -2), (meet(big, 0), -2), (meet(0, big), -2),
                     (row(big), -2), (spots(big), -2), (waits(big), -2), (same(big, 0), -2), (same(0, big), -2)]
            found = ask(*house, *[call for call, number in tried], *looks)[len(house):]
            self.assertEqual(found, [[number] for call, number in tried] + plain)


class LongLists(unittest.TestCase):
    def test_200_calls_of_120_deeds_at_8_desks(self):
        runs = [put(desk, i) for i in range(15) for desk in range(8)]
        # In three rounds everyone has met everyone's word.
        rounds = [meet(desk, desk + step) for step in (1, 2, 4) for desk in range(8) if desk // step % 2 == 0]
        calls = [begin(8), *runs, *rounds]
        looks = [one(desk) for one in (row, spots, waits) for desk in range(8)] + [same(0, desk) for desk in range(8)]
        calls += looks + [meet(7, 0)] + [tell(deed, deed % 8) for deed in range(34)]
        self.assertEqual(len(calls), 200)
        handed_in = as_list(calls)
        first = answers(handed_in)
        self.assertEqual(handed_in, as_list(calls))
        self.assertEqual(answers(handed_in), first)
        found = ask(*calls)
        in_runs = [desk + 8 * i for desk in range(8) for i in range(15)]
        self.assertEqual(found[121:133], [[30 * step, 15 * step, 15 * step] for step in (1, 2, 4) for _ in range(4)])
        self.assertEqual(found[133:149], [[120, *in_runs]] * 16)
        self.assertEqual(found[149:], [[0]] * 8 + [[1, 1]] * 8 + [[120, 0, 0]] + [[120, 1]] * 34)

    def test_200_looks(self):
        calls = [put(0, 0)] * 120 + [row(0)] * 80
        self.assertEqual(len(answers(as_list(calls))), 120 * 3 + 80 * 122)


if __name__ == "__main__":
    unittest.main()

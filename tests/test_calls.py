"""The calls 1 to 5 at ordinary inputs, at the edges, and at what is refused: all through `answers`."""

import unittest

from asking import (NO_MORE_DEEDS, NO_SUCH, NOT_IN_ROW, OUT_OF_RANGE, TOP, as_list, ask, begin, full_house, last,
                    move, out, put, tell)
from manyhandssheet.desks import answers


def in_row(calls, desk, thing):
    return last(*calls, out(desk, thing)) != NOT_IN_ROW


def row_length(calls, desk):
    length = 0
    while last(*calls, put(desk, length + 1)) != OUT_OF_RANGE:
        length += 1
    return length


def hangs_on(calls, deed, spare):
    """The deeds without which this one waits, seen at a spare desk that knows nothing else."""
    others = range(deed)
    found = []
    for left_out in others:
        tells = [tell(other, spare) for other in others if other != left_out]
        if last(*calls, *tells, tell(deed, spare))[1] == 0:
            found.append(left_out)
    return found


class TheList(unittest.TestCase):
    def test_each_answer_has_its_count_ahead(self):
        calls = [1, 2, 2, 0, 0, 2, 0, 2, 3, 0, 0, 0, 5, 0, 1, 4, 1, 0]
        self.assertEqual(answers(calls), [1, 0, 2, 0, 0, 1, -1, 1, 1, 2, 1, 1, 1, 2])

    def test_one_call(self):
        self.assertEqual(answers([1, 3]), [1, 0])
        self.assertEqual(answers([2, 0, 0]), [2, 0, 0])
        self.assertEqual(answers([3, 0, 0, 0]), [1, -3])
        self.assertEqual(answers([4, 0, 0]), [1, -3])
        self.assertEqual(answers([5, 0, 0]), [1, -2])

    def test_what_is_handed_in_stays_and_nothing_is_kept(self):
        calls = as_list([begin(2), put(0, 0), put(0, 0), tell(1, 1), move(0, 0, 0), out(0, 1), put(9, 9)])
        before = list(calls)
        first = answers(calls)
        kept = list(first)
        self.assertEqual(calls, before)
        answers([1, 8, 2, 7, 0])
        self.assertEqual(answers(calls), kept)
        self.assertEqual(first, kept)
        self.assertEqual(calls, before)

    def test_whole_numbers_in_a_list(self):
        found = answers(as_list([begin(2), put(0, 0), tell(0, 1), tell(0, 1), out(1, 0), move(0, 0, 0)]))
        self.assertIs(type(found), list)
        self.assertEqual({type(number) for number in found}, {int})

    def test_two_hundred_calls(self):
        calls = [put(0, 0)] * 120 + [tell(119, 0)] * 80
        found = ask(*calls)
        self.assertEqual(found[119], [119, 119])
        self.assertEqual(found[199], [120, 1])


class Begin(unittest.TestCase):
    def test_one_desk_ahead_of_any_begin(self):
        self.assertEqual(ask(put(0, 0), put(1, 0), tell(0, 0), tell(0, 1)), [[0, 0], NO_SUCH, [1, 1], NO_SUCH])

    def test_how_many_desks(self):
        self.assertEqual(ask(begin(1), put(0, 0), put(1, 0)), [[0], [0, 0], NO_SUCH])
        self.assertEqual(ask(begin(8), put(7, 0), put(8, 0)), [[0], [0, 0], NO_SUCH])
        for desks in (0, 9, 10, TOP):
            self.assertEqual(ask(begin(desks)), [OUT_OF_RANGE])

    def test_all_is_new_behind_it(self):
        found = ask(begin(2), put(1, 0), tell(0, 0), put(0, 1), begin(2), tell(0, 0), put(1, 1), out(1, 0), put(1, 0))
        self.assertEqual(found[4:], [[0], NO_SUCH, OUT_OF_RANGE, NOT_IN_ROW, [0, 0]])

    def test_fewer_desks_behind_it(self):
        self.assertEqual(ask(begin(3), put(2, 0), begin(2), put(2, 0), put(1, 0))[3:], [NO_SUCH, [0, 0]])

    def test_a_full_house_is_new_behind_it(self):
        self.assertEqual(ask(*full_house(), put(0, 0), begin(1), put(0, 0))[-3:], [NO_MORE_DEEDS, [0], [0, 0]])

    def test_refused_it_changes_nothing(self):
        for desks in (0, 9, TOP):
            found = ask(begin(2), put(1, 0), begin(desks), put(1, 1), tell(0, 0), put(2, 0))
            self.assertEqual(found[2:], [OUT_OF_RANGE, [1, 1], [1, 1], NO_SUCH])


class Put(unittest.TestCase):
    def test_deeds_and_things_are_numbered_apart_in_the_whole_house(self):
        found = ask(begin(3), put(0, 0), put(2, 0), move(0, 0, 0), put(1, 0), out(2, 1), put(0, 1))
        self.assertEqual(found, [[0], [0, 0], [1, 1], [2], [3, 2], [4], [5, 3]])

    def test_places(self):
        self.assertEqual(ask(put(0, 1), put(0, 0), put(0, 2), put(0, 1), put(0, 3), put(0, 0), put(0, 3), put(0, 5)),
                         [OUT_OF_RANGE, [0, 0], OUT_OF_RANGE, [1, 1], OUT_OF_RANGE, [2, 2], [3, 3], OUT_OF_RANGE])

    def test_the_row_is_the_desks_own(self):
        calls = [begin(2), put(0, 0), put(0, 1)]
        self.assertEqual(last(*calls, put(1, 1)), OUT_OF_RANGE)
        self.assertEqual(last(*calls, put(1, 0)), [2, 2])
        self.assertEqual(last(*calls, tell(0, 1), put(1, 1)), [2, 2])
        self.assertEqual(last(*calls, tell(0, 1), put(1, 2)), OUT_OF_RANGE)

    def test_what_waits_and_what_is_out_is_not_counted(self):
        calls = [begin(2), put(0, 0), put(0, 1)]
        self.assertEqual(last(*calls, tell(1, 1), put(1, 1)), OUT_OF_RANGE)
        self.assertEqual(last(*calls, out(0, 0), put(0, 2)), OUT_OF_RANGE)
        self.assertEqual(last(*calls, out(0, 0), put(0, 1)), [3, 2])

    def test_a_moved_thing_is_counted_once(self):
        calls = [put(0, 0), put(0, 1), move(0, 0, 1)]
        self.assertEqual(row_length(calls, 0), 2)

    def test_to_the_right_where_nothing_is_yet(self):
        calls = [begin(2), put(0, 0), put(0, 1), put(0, 2)]
        self.assertEqual(hangs_on(calls, 1, 1), [0])
        self.assertEqual(hangs_on(calls, 2, 1), [0, 1])

    def test_to_the_left_of_the_next_where_something_is(self):
        calls = [begin(2), put(0, 0), put(0, 1), put(0, 2), put(0, 1), put(0, 0), put(0, 0)]
        self.assertEqual(hangs_on(calls, 3, 1), [0, 1])
        self.assertEqual(hangs_on(calls, 4, 1), [0])
        self.assertEqual(hangs_on(calls, 5, 1), [0, 4])

    def test_the_next_is_the_first_of_what_is_to_the_right(self):
        # Deed 1 is to the right of deed 0, deed 2 to the left of deed 1: behind deed 0 comes deed 2.
        calls = [begin(2), put(0, 0), put(0, 1), put(0, 1), put(0, 1)]
        self.assertEqual(hangs_on(calls, 3, 1), [0, 1, 2])

    def test_behind_one_to_the_left_with_nothing_to_its_right(self):
        # Thing 1 is to the left of thing 0; what goes between them is to the right of thing 1.
        calls = [begin(2), put(0, 0), put(0, 0), put(0, 1)]
        self.assertEqual(hangs_on(calls, 2, 1), [0, 1])

    def test_the_next_is_taken_among_all_spots_with_nothing_at_them_too(self):
        calls = [begin(2), put(0, 0), put(0, 1), out(0, 0), put(0, 0)]
        self.assertEqual(hangs_on(calls, 3, 1), [0])
        calls = [begin(2), put(0, 0), put(0, 1), put(0, 2), out(0, 1), put(0, 1)]
        self.assertEqual(hangs_on(calls, 4, 1), [0, 1])

    def test_what_waits_is_not_behind_the_beginning(self):
        # Desk 1 knows deed 1 alone, which waits: the new spot is at the beginning, to its right.
        calls = [begin(3), put(0, 0), put(0, 1), tell(1, 1), put(1, 0)]
        self.assertEqual(hangs_on(calls, 2, 2), [])

    def test_of_two_at_one_place_the_earlier_stamp_is_ahead(self):
        # Deeds 1 and 2 are both to the right of deed 0, with the same count: desk 0's is ahead.
        for first, second, ahead, behind in ((0, 1, 1, 2), (1, 0, 2, 1)):
            calls = [begin(4), put(0, 0), tell(0, 1), put(first, 1), put(second, 1)]
            for order in ((0, 1, 2), (2, 1, 0)):
                heard = [*calls, *[tell(deed, 2) for deed in order]]
                self.assertEqual(hangs_on([*heard, put(2, 1)], 3, 3), [0, ahead])
                self.assertEqual(hangs_on([*heard, put(2, 2)], 3, 3), [0, ahead])
                self.assertEqual(hangs_on([*heard, put(2, 3)], 3, 3), [0, behind])

    def test_runs_put_in_at_one_place_at_the_same_time(self):
        # Desk 0's run is the deeds 1 and 2, desk 1's the deeds 3 and 4: behind the one comes the other.
        calls = [begin(4), put(0, 0), tell(0, 1), put(0, 1), put(0, 2), put(1, 1), put(1, 2)]
        for order in ((0, 1, 2, 3, 4), (4, 2, 3, 1, 0), (3, 4, 3, 0, 1, 1, 2)):
            heard = [*calls, *[tell(deed, 2) for deed in order]]
            self.assertEqual(row_length(heard, 2), 5)
            found = [hangs_on([*heard, put(2, i)], 5, 3) for i in range(6)]
            self.assertEqual(found, [[0], [0, 1], [0, 1, 2], [0, 1, 2], [0, 3, 4], [0, 3, 4]])

    def test_refusals_in_their_order(self):
        full = full_house()
        self.assertEqual(last(*full, put(0, 120)), NO_MORE_DEEDS)
        self.assertEqual(last(*full, put(0, 121)), OUT_OF_RANGE)
        self.assertEqual(last(*full, put(1, 0)), NO_SUCH)
        self.assertEqual(last(*full, put(1, 121)), NO_SUCH)

    def test_big_numbers(self):
        self.assertEqual(ask(put(TOP, 0), put(0, TOP), put(TOP, TOP), put(0, 0)),
                         [NO_SUCH, OUT_OF_RANGE, NO_SUCH, [0, 0]])


class Move(unittest.TestCase):
    three = [begin(4), put(0, 0), put(0, 1), put(0, 2)]

    def test_places(self):
        for thing in (0, 1, 2):
            for i in (0, 1, 2):
                self.assertEqual(last(*self.three, move(0, thing, i)), [3])
            for i in (3, 4, TOP):
                self.assertEqual(last(*self.three, move(0, thing, i)), OUT_OF_RANGE)

    def test_the_only_thing(self):
        self.assertEqual(ask(put(0, 0), move(0, 0, 0), move(0, 0, 1), move(0, 0, 0)),
                         [[0, 0], [1], OUT_OF_RANGE, [2]])

    def test_the_place_is_counted_without_the_thing(self):
        self.assertEqual(hangs_on([*self.three, move(0, 0, 2)], 3, 1), [0, 1, 2])
        # Behind thing 1, and so to the left of thing 2.
        self.assertEqual(hangs_on([*self.three, move(0, 0, 1)], 3, 1), [0, 1, 2])
        # At the beginning, ahead of thing 0's old spot.
        self.assertEqual(hangs_on([*self.three, move(0, 0, 0)], 3, 1), [0])
        self.assertEqual(hangs_on([*self.three, move(0, 2, 0)], 3, 1), [0])
        # Behind thing 0, and so to the left of thing 1, be it moved itself or not.
        self.assertEqual(hangs_on([*self.three, move(0, 2, 1)], 3, 1), [0, 1])
        self.assertEqual(hangs_on([*self.three, move(0, 1, 1)], 3, 1), [0, 1])

    def test_what_is_put_behind_a_moved_thing_hangs_on_its_new_spot(self):
        calls = [*self.three, move(0, 0, 2), put(0, 3)]
        self.assertEqual(hangs_on(calls, 4, 1), [0, 1, 2, 3])
        # Its old spot still lies first: what goes to the beginning is to the left of that.
        calls = [*self.three, move(0, 0, 2), put(0, 0)]
        self.assertEqual(hangs_on(calls, 4, 1), [0])

    def test_by_another_desk(self):
        told = [tell(0, 1), tell(1, 1), tell(2, 1)]
        self.assertEqual(last(*self.three, move(1, 0, 0)), NOT_IN_ROW)
        self.assertEqual(last(*self.three, *told, move(1, 0, 2)), [3])

    def test_not_in_the_row(self):
        self.assertEqual(last(*self.three, move(0, 3, 0)), NOT_IN_ROW)
        self.assertEqual(last(*self.three, out(0, 1), move(0, 1, 0)), NOT_IN_ROW)
        self.assertEqual(last(*self.three, tell(1, 1), move(1, 1, 0)), NOT_IN_ROW)
        self.assertEqual(last(*self.three, out(0, 1), move(0, 0, 2)), OUT_OF_RANGE)

    def test_known_by_its_move_alone(self):
        # Thing 1 is moved to the beginning: its new spot is at deed 0, and deed 1 isn't needed.
        calls = [*self.three, move(0, 1, 0), tell(3, 1), tell(0, 1)]
        self.assertEqual(row_length(calls, 1), 2)
        self.assertTrue(in_row(calls, 1, 1))
        self.assertTrue(in_row([*calls, tell(1, 1)], 1, 1))
        self.assertEqual(row_length([*calls, tell(1, 1)], 1), 2)

    def test_a_move_that_waits_leaves_the_thing_where_it_was(self):
        calls = [*self.three, move(0, 0, 2), tell(0, 1), tell(3, 1)]
        self.assertEqual(last(*calls), [2, 0])
        self.assertTrue(in_row(calls, 1, 0))
        self.assertEqual(row_length(calls, 1), 1)

    def test_at_two_desks_at_once_the_later_stamp_holds(self):
        told = [tell(deed, desk) for deed in (0, 1, 2) for desk in (1, 2)]
        # Both moves have the count 4, so desk 1's (deed 4) is the later one, in whatever order it's told.
        moves = [move(0, 0, 2), move(1, 0, 1)]
        swapped = [move(1, 0, 1), move(0, 0, 2)]
        for calls, of_desk_1 in (([*self.three, *told, *moves], 4), ([*self.three, *told, *swapped], 3)):
            for order in ((3, 4), (4, 3), (4, 3, 4, 3)):
                heard = [*calls, *[tell(deed, 2) for deed in order]]
                self.assertEqual(row_length(heard, 2), 3)
                # What is put behind thing 0 (which is number 1 then) hangs on desk 1's spot, not on desk 0's.
                self.assertEqual(hangs_on([*heard, put(2, 2)], 5, 3), [0, 1, 2, of_desk_1])

    def test_refusals_in_their_order(self):
        full = full_house()
        self.assertEqual(last(*full, move(0, 0, 119)), NO_MORE_DEEDS)
        self.assertEqual(last(*full, move(0, 0, 120)), OUT_OF_RANGE)
        self.assertEqual(last(*full, move(0, 120, 0)), NOT_IN_ROW)
        self.assertEqual(last(*full, move(0, 120, 120)), NOT_IN_ROW)
        self.assertEqual(last(*full, move(1, 0, 0)), NO_SUCH)
        self.assertEqual(last(*full, move(1, 120, 120)), NO_SUCH)

    def test_big_numbers(self):
        self.assertEqual(ask(put(0, 0), move(TOP, 0, 0), move(0, TOP, 0), move(0, 0, TOP), move(0, TOP, TOP),
                             move(TOP, TOP, TOP), move(0, 0, 0)),
                         [[0, 0], NO_SUCH, NOT_IN_ROW, OUT_OF_RANGE, NOT_IN_ROW, NO_SUCH, [1]])


class Out(unittest.TestCase):
    two = [begin(3), put(0, 0), put(0, 1), tell(0, 1), tell(1, 1)]

    def test_taken_out_once(self):
        calls = [*self.two, out(0, 0)]
        self.assertEqual(last(*calls), [2])
        self.assertEqual(last(*calls, out(0, 0)), NOT_IN_ROW)
        self.assertEqual(row_length(calls, 0), 1)
        self.assertTrue(in_row(calls, 0, 1))

    def test_only_where_it_is_known(self):
        calls = [*self.two, out(0, 0)]
        self.assertTrue(in_row(calls, 1, 0))
        self.assertEqual(last(*calls, tell(2, 1)), [3, 1])
        self.assertFalse(in_row([*calls, tell(2, 1)], 1, 0))

    def test_always_in(self):
        calls = [*self.two, out(0, 1), tell(2, 2)]
        self.assertEqual(last(*calls), [1, 1])
        self.assertFalse(in_row(calls, 2, 1))
        heard = [*calls, tell(1, 2), tell(0, 2)]
        self.assertEqual(last(*heard), [3, 1])
        self.assertFalse(in_row(heard, 2, 1))
        self.assertTrue(in_row(heard, 2, 0))

    def test_the_spot_stays(self):
        calls = [*self.two, out(0, 0), tell(2, 1), put(1, 1)]
        self.assertEqual(last(*calls), [3, 2])
        self.assertEqual(hangs_on(calls, 3, 2), [0, 1])

    def test_out_at_one_desk_and_moved_at_another(self):
        told = [tell(2, 0), tell(3, 0), tell(2, 1), tell(3, 1)]
        # The counts are the same: desk 1's deed is the later one.
        moved_later = [*self.two, out(0, 0), move(1, 0, 1), *told]
        out_later = [*self.two, move(0, 0, 1), out(1, 0), *told]
        for desk in (0, 1):
            self.assertTrue(in_row(moved_later, desk, 0))
            self.assertEqual(row_length(moved_later, desk), 2)
            self.assertFalse(in_row(out_later, desk, 0))
            self.assertEqual(row_length(out_later, desk), 1)

    def test_the_greater_count_is_later_whatever_the_desk(self):
        # Desk 0 knows one deed more (thing 2), so its count is above desk 1's.
        out_later = [*self.two, move(1, 0, 1), put(0, 0), out(0, 0), tell(2, 0), tell(4, 1)]
        moved_later = [*self.two, out(1, 0), put(0, 0), move(0, 0, 0), tell(2, 0), tell(3, 1), tell(4, 1)]
        for desk in (0, 1):
            self.assertFalse(in_row(out_later, desk, 0))
            self.assertTrue(in_row(moved_later, desk, 0))

    def test_a_move_that_waits_does_not_bring_it_back(self):
        calls = [*self.two, put(1, 2), move(1, 0, 2), out(0, 0), tell(3, 0)]
        self.assertEqual(last(*calls), [4, 0])
        self.assertFalse(in_row(calls, 0, 0))
        self.assertTrue(in_row([*calls, tell(2, 0)], 0, 0))

    def test_what_waits_counts_for_the_next_count(self):
        # Desk 2 hears of deed 3 (count 4), which waits there; so its out has the count 5 and beats the
        # move by desk 1, which has the count 4 and would else be later.
        base = [begin(4), put(0, 0), put(0, 1), put(0, 2), tell(0, 1), tell(0, 2), tell(1, 1), tell(2, 1)]
        calls = [*base, put(0, 3), tell(3, 2), out(2, 0), move(1, 0, 0), tell(4, 1)]
        self.assertFalse(in_row(calls, 1, 0))
        without = [*base, put(0, 3), out(2, 0), move(1, 0, 0), tell(4, 1)]
        self.assertTrue(in_row(without, 1, 0))

    def test_not_in_the_row(self):
        self.assertEqual(last(*self.two, out(0, 2)), NOT_IN_ROW)
        self.assertEqual(last(*self.two, out(2, 0)), NOT_IN_ROW)
        self.assertEqual(last(*self.two, tell(1, 2), out(2, 1)), NOT_IN_ROW)

    def test_refusals_in_their_order(self):
        full = full_house()
        self.assertEqual(last(*full, out(0, 0)), NO_MORE_DEEDS)
        self.assertEqual(last(*full, out(0, 120)), NOT_IN_ROW)
        self.assertEqual(last(*full, out(1, 0)), NO_SUCH)
        self.assertEqual(last(*full, out(1, 120)), NO_SUCH)

    def test_big_numbers(self):
        self.assertEqual(ask(put(0, 0), out(TOP, 0), out(0, TOP), out(TOP, TOP), out(0, 0)),
                         [[0, 0], NO_SUCH, NOT_IN_ROW, NO_SUCH, [1]])


class Tell(unittest.TestCase):
    def test_late_doubled_in_any_order(self):
        calls = [begin(2), put(0, 0), put(0, 1), put(0, 2)]
        found = ask(*calls, tell(2, 1), tell(1, 1), tell(1, 1), tell(0, 1), tell(2, 1), tell(1, 1), tell(0, 1))
        self.assertEqual(found[4:], [[1, 0], [2, 0], [2, 0], [3, 1], [3, 1], [3, 1], [3, 1]])

    def test_waiting_things_come_in_together(self):
        calls = [begin(2), put(0, 0), put(0, 1), put(0, 2), tell(2, 1), tell(1, 1)]
        self.assertEqual(row_length(calls, 1), 0)
        self.assertEqual(row_length([*calls, tell(0, 1)], 1), 3)

    def test_ones_own_deed(self):
        self.assertEqual(ask(put(0, 0), put(0, 0), tell(0, 0), tell(1, 0))[2:], [[2, 1], [2, 1]])

    def test_refusals(self):
        calls = [begin(2), put(0, 0)]
        for deed, desk in ((1, 0), (0, 2), (1, 2), (TOP, 0), (0, TOP), (TOP, TOP)):
            self.assertEqual(last(*calls, tell(deed, desk)), NO_SUCH)
        self.assertEqual(ask(tell(0, 0)), [NO_SUCH])

    def test_in_a_full_house(self):
        calls = full_house(2)
        self.assertEqual(last(*calls, tell(119, 1)), [1, 0])
        self.assertEqual(last(*calls, tell(119, 1), tell(0, 1)), [2, 1])
        self.assertEqual(last(*calls, tell(120, 1)), NO_SUCH)


class AFullHouse(unittest.TestCase):
    def test_the_120th_deed_and_the_one_behind_it(self):
        most = full_house(2)[:-1]
        self.assertEqual(last(*most, put(0, 0)), [119, 119])
        self.assertEqual(last(*most, move(0, 0, 0)), [119])
        self.assertEqual(last(*most, out(0, 0)), [119])
        self.assertEqual(last(*most, tell(0, 1), out(1, 0)), [119])
        for one_more in (put(0, 0), move(0, 0, 0), out(0, 0), put(1, 0)):
            self.assertEqual(last(*most, out(0, 118), one_more), NO_MORE_DEEDS)

    def test_of_all_desks_together(self):
        calls = [begin(8)] + [put(i % 8, 0) for i in range(120)]
        for desk in range(8):
            self.assertEqual(last(*calls, put(desk, 0)), NO_MORE_DEEDS)

    def test_refused_ones_are_not_counted(self):
        calls = [put(0, 1)] * 70 + [put(0, 0)] * 120
        self.assertEqual(last(*calls), [119, 119])


class BehindARefusal(unittest.TestCase):
    def test_all_is_as_it_was(self):
        calls = [begin(3), put(0, 0), put(1, 0), tell(0, 1), put(1, 2), put(0, 1), tell(2, 0), tell(1, 0),
                 move(0, 0, 2), out(1, 1), tell(4, 2), tell(5, 2), tell(0, 2), put(2, 1), put(0, 4)]
        refused = [begin(0), begin(9), put(3, 0), put(0, 9), move(3, 0, 0), move(0, 9, 0), move(0, 0, 9),
                   out(3, 0), out(0, 9), tell(99, 0), tell(0, 3), tell(TOP, TOP)]
        plain = ask(*calls)
        for between in refused:
            mixed = [one for call in calls for one in (call, between)]
            found = ask(*mixed)
            self.assertEqual(found[::2], plain)
            self.assertTrue(all(len(answer) == 1 and answer[0] < 0 for answer in found[1::2]), between)

    def test_in_a_full_house(self):
        calls = full_house(2)
        refused = [put(0, 0), move(0, 0, 0), out(0, 0), put(1, 0)]
        found = ask(*calls, *refused, tell(120, 1), tell(0, 1), tell(1, 1), tell(0, 0))
        self.assertEqual(found[121:], [NO_MORE_DEEDS] * 4 + [NO_SUCH, [1, 1], [2, 1], [120, 1]])


if __name__ == "__main__":
    unittest.main()

"""The promises: rows worked out by hand, and what holds behind every call of long mixed lists."""

import contextlib
import functools
import inspect
import io
import random
import sys
import unittest

from manyhandssheet.desks import BEGINNING, House, answer_to, answers, row_of, spots_of
from reference import answers as reference_answers
from reference import random_calls, random_full_calls, split_calls

# How often begin, put, move, out, tell, meet, row, spots, waits, same come.
MIXES = ([1, 30, 10, 4, 55, 2, 5, 5, 5, 5], [0, 20, 20, 8, 60, 0, 4, 4, 6, 4], [0, 70, 20, 5, 20, 6, 2, 2, 2, 2],
         [0, 15, 40, 15, 60, 8, 5, 5, 5, 5], [1, 10, 10, 5, 10, 10, 10, 10, 10, 10])


def told_by(house, call, desk):
    """What row (7), spots (8) or waits (9) answers, without the count ahead."""
    answer = answer_to(house, call, [desk])
    if answer[0] != len(answer) - 1:
        raise AssertionError(f"the count does not fit: {answer}")
    return answer[1:]


def row(house, desk):
    return told_by(house, 7, desk)


def spots(house, desk):
    return told_by(house, 8, desk)


def waits(house, desk):
    return told_by(house, 9, desk)


def tell_all(house, desk, order=None):
    for number in order or range(len(house.deeds)):
        house.tell(number, desk)


def house_of(desks, *calls):
    """A house of so many desks, behind these calls."""
    house = House()
    house.begin(desks)
    for call in calls:
        answer_to(house, call[0], list(call[1:]))
    return house


@functools.cache
def mixed_list(seed):
    rng = random.Random(seed)
    return tuple(random_calls(rng, 1 + seed % 4, rng.choice([20, 60, 200]), MIXES[seed % len(MIXES)]))


def mixed_lists(how_many):
    return [list(mixed_list(seed)) for seed in range(how_many)]


class RowsByHand(unittest.TestCase):
    def test_put(self):
        house = House()
        for i, expected in ((0, [0]), (1, [0, 1]), (1, [0, 2, 1]), (0, [3, 0, 2, 1]), (3, [3, 0, 2, 4, 1]),
                            (5, [3, 0, 2, 4, 1, 5]), (1, [3, 6, 0, 2, 4, 1, 5])):
            house.put(0, i)
            self.assertEqual(row(house, 0), expected)

    def test_move(self):
        for thing, i, expected in ((0, 0, [0, 1, 2]), (0, 1, [1, 0, 2]), (0, 2, [1, 2, 0]),
                                   (1, 0, [1, 0, 2]), (1, 1, [0, 1, 2]), (1, 2, [0, 2, 1]),
                                   (2, 0, [2, 0, 1]), (2, 1, [0, 2, 1]), (2, 2, [0, 1, 2])):
            house = house_of(1, (2, 0, 0), (2, 0, 1), (2, 0, 2), (3, 0, thing, i))
            self.assertEqual(row(house, 0), expected)
            self.assertEqual(len(spots(house, 0)), 4)

    def test_out(self):
        house = house_of(1, (2, 0, 0), (2, 0, 1), (2, 0, 2), (4, 0, 1))
        self.assertEqual(row(house, 0), [0, 2])
        self.assertEqual(spots(house, 0), [0, 1, 2])
        house.put(0, 1)
        self.assertEqual(row(house, 0), [0, 3, 2])
        self.assertEqual(spots(house, 0), [0, 4, 1, 2])

    def test_runs_at_one_place_at_the_same_time_are_not_mixed(self):
        forward = [(2, desk, i) for i in (1, 2, 3) for desk in (0, 1)]
        backward = [(2, desk, 1) for _ in range(3) for desk in (0, 1)]
        for runs, expected in ((forward, [0, 2, 4, 6, 3, 5, 7, 1]), (backward, [0, 6, 4, 2, 7, 5, 3, 1])):
            house = house_of(2, (2, 0, 0), (2, 0, 1), (5, 0, 1), (5, 1, 1), *runs)
            tell_all(house, 0)
            tell_all(house, 1, [7, 0, 3, 6, 2, 1, 4, 5])
            self.assertEqual(row(house, 0), expected)
            self.assertEqual(row(house, 1), expected)

    def test_runs_at_the_beginning_and_at_the_end(self):
        house = house_of(3, (2, 2, 0), (2, 1, 0), (2, 0, 0), (2, 2, 1), (2, 1, 1), (2, 0, 1))
        for desk, order in ((0, None), (1, [5, 4, 3, 2, 1, 0]), (2, [3, 0, 5, 1, 4, 2])):
            tell_all(house, desk, order)
            # All first ones have the count 1: the lesser desk's run is ahead.
            self.assertEqual(row(house, desk), [2, 5, 1, 4, 0, 3])

    def test_counts_are_above_all_that_is_known(self):
        house = house_of(2, (2, 0, 0), (2, 0, 1), (2, 1, 0), (5, 1, 1), (2, 1, 0), (4, 1, 2))
        self.assertEqual([(deed.count, deed.desk) for deed in house.deeds],
                         [(1, 0), (2, 0), (1, 1), (3, 1), (4, 1)])

    def test_a_thing_moved_at_two_desks_at_once(self):
        told = [(5, deed, 1) for deed in (0, 1, 2)]
        house = house_of(2, (2, 0, 0), (2, 0, 1), (2, 0, 2), *told, (3, 1, 0, 1), (3, 0, 0, 2))
        self.assertEqual(row(house, 1), [1, 0, 2])
        self.assertEqual(row(house, 0), [1, 2, 0])
        tell_all(house, 0)
        tell_all(house, 1)
        self.assertEqual(row(house, 0), [1, 0, 2])
        self.assertEqual(row(house, 1), [1, 0, 2])

    def test_what_waits_is_not_in_the_row(self):
        house = house_of(2, (2, 0, 0), (2, 0, 1), (2, 0, 1), (5, 2, 1), (2, 1, 0))
        self.assertEqual(row(house, 1), [3])
        house.tell(0, 1)
        self.assertEqual(row(house, 1), [0, 3])
        house.tell(1, 1)
        self.assertEqual(row(house, 1), [0, 2, 1, 3])

    def test_a_chain_as_long_as_can_be(self):
        house = house_of(2, *[(2, 0, i) for i in range(120)])
        tell_all(house, 1, list(range(119, 0, -1)))
        self.assertEqual(spots(house, 1), [])
        house.tell(0, 1)
        self.assertEqual(row(house, 1), list(range(120)))
        house = house_of(1, *[(2, 0, 0)] * 120)
        self.assertEqual(row(house, 0), list(range(119, -1, -1)))


class BehindEveryCall(unittest.TestCase):
    def each_step(self, how_many=60):
        """Each call of mixed lists: the call, the answer, the rows and spots ahead of it, the house behind it."""
        for calls in mixed_lists(how_many):
            house = House()
            for call in split_calls(calls):
                rows = [row(house, desk) for desk in range(len(house.known))]
                lines = [spots(house, desk) for desk in range(len(house.known))]
                answer = answer_to(house, call[0], list(call[1:]))
                yield call, answer, rows, lines, house

    def test_1_the_same_deeds_make_the_same_row(self):
        for seed, calls in enumerate(mixed_lists(30)):
            house = House()
            for call in split_calls(calls):
                answer_to(house, call[0], list(call[1:]))
            orders = []
            for desk in range(len(house.known)):
                order = list(range(len(house.deeds)))
                random.Random(seed + 1000 * desk).shuffle(order)
                tell_all(house, desk, order)
                orders.append((row(house, desk), spots(house, desk)))
                self.assertEqual(waits(house, desk), [])
                self.assertEqual(house.same(0, desk), [1, 1])
            self.assertEqual(orders, orders[:1] * len(orders))

    def test_1_at_every_step(self):
        met = 0
        for call, answer, rows, lines, house in self.each_step():
            for desk in range(len(house.known)):
                for other in range(desk):
                    found = house.same(desk, other)
                    self.assertEqual(found, house.same(other, desk))
                    if found[0] == 1:
                        met += 1
                        for look in (7, 8, 9):
                            self.assertEqual(told_by(house, look, desk), told_by(house, look, other))
                    self.assertEqual(found[1], int(row(house, desk) == row(house, other)))
        self.assertGreater(met, 100)

    def test_2_no_two_spots_turn_round(self):
        for call, answer, rows, lines, house in self.each_step():
            if call[0] == 1:
                continue
            whole = [deed.number for deed in spots_of(house.deeds)]
            self.assertEqual(sorted(whole), [deed.number for deed in house.deeds if deed.place is not None])
            for desk, line in enumerate(lines):
                now = spots(house, desk)
                self.assertEqual([number for number in now if number in line], line)
                self.assertEqual([number for number in whole if number in now], now)

    def test_3_what_hangs_together_lies_together(self):
        for call, answer, rows, lines, house in self.each_step(24):
            for desk in range(len(house.known)):
                line = spots(house, desk)
                for number in line:
                    family = [line.index(other) for other in line if self.hangs_on(house, other, number)]
                    self.assertEqual(family, list(range(family[0], family[0] + len(family))))

    def hangs_on(self, house, number, other):
        while number not in (other, BEGINNING):
            number = house.deeds[number].place[0]
        return number == other

    def test_3_a_new_spot_is_right_behind(self):
        for call, answer, rows, lines, house in self.each_step():
            if call[0] not in (2, 3) or answer[0] < 0:
                continue
            desk, i = call[1], call[-1]
            line = [BEGINNING] + spots(house, desk)
            before = [BEGINNING] + [deed.number for deed in row_of(house.deeds_known(desk))]
            self.assertEqual(before[i + 1], answer[0])
            self.assertEqual(line[line.index(answer[0]) - 1], before[i])

    def test_4_the_row_is_as_it_was_but_for_this_thing(self):
        for call, answer, rows, lines, house in self.each_step():
            if call[0] == 1 and answer == [0]:
                continue
            expected = [list(one) for one in rows]
            if answer[0] >= 0 and call[0] in (2, 3, 4):
                desk = call[1]
                thing = answer[1] if call[0] == 2 else call[2]
                expected[desk] = [one for one in expected[desk] if one != thing]
                if call[0] != 4:
                    expected[desk].insert(call[-1], thing)
            now = [row(house, desk) for desk in range(len(house.known))]
            if call[0] == 5 and answer[0] >= 0:
                expected[call[2]] = now[call[2]]
            if call[0] == 6 and answer[0] >= 0:
                self.assertEqual(now[call[1]], now[call[2]])
                expected[call[1]] = now[call[1]]
                expected[call[2]] = now[call[2]]
            self.assertEqual(now, expected)

    def test_5_each_thing_once_at_most(self):
        for call, answer, rows, lines, house in self.each_step():
            for desk in range(len(house.known)):
                now = row(house, desk)
                self.assertEqual(len(now), len(set(now)))

    def test_what_is_known_is_told_once(self):
        """Each deed that a desk knows takes out, or is told by spots, or by waits."""
        for call, answer, rows, lines, house in self.each_step():
            for desk in range(len(house.known)):
                known = house.deeds_known(desk)
                taking_out = [deed.number for deed in known if deed.place is None]
                told = spots(house, desk) + waits(house, desk) + taking_out
                self.assertEqual(sorted(told), sorted(deed.number for deed in known))
                stamps = [(house.deeds[number].count, house.deeds[number].desk) for number in waits(house, desk)]
                self.assertEqual(stamps, sorted(stamps))

    def test_looking_changes_nothing(self):
        looks = (7, 8, 9, 10)
        for calls in mixed_lists(40):
            parts = split_calls(calls)
            without = [number for call in parts if call[0] not in looks for number in call]
            found = [answer for call, answer in zip(parts, self.each_answer(calls)) if call[0] not in looks]
            self.assertEqual(self.each_answer(without), found)

    def each_answer(self, calls):
        house = House()
        return [answer_to(house, call[0], list(call[1:])) for call in split_calls(calls)]

    def test_the_mixed_lists_come_to_all_that_is_answered(self):
        seen = set()
        for call, answer, rows, lines, house in self.each_step():
            seen.add((call[0], min(answer[0], 0)))
            if call[0] == 5 and answer[0] >= 0:
                seen.add(("in", answer[1]))
            if call[0] == 6 and answer[0] >= 0:
                seen.add(("learned", answer[1] > 0, answer[2] > 0))
            if call[0] == 10 and answer[0] >= 0:
                seen.add(("same", *answer))
            if call[0] == 9 and answer[0] > 1:
                seen.add("several wait")
        self.assertEqual(seen, {(1, 0), (1, -1), (2, 0), (2, -2), (2, -1), (2, -5), (3, 0), (3, -2), (3, -3), (3, -1),
                                (3, -5), (4, 0), (4, -2), (4, -3), (4, -5), (5, 0), (5, -2), (6, 0), (6, -2),
                                (7, 0), (7, -2), (8, 0), (8, -2), (9, 0), (9, -2), (10, 0), (10, -2),
                                ("in", 0), ("in", 1), ("same", 0, 0), ("same", 0, 1), ("same", 1, 1), "several wait",
                                *[("learned", one, other) for one in (False, True) for other in (False, True)]})


class AgainstTheReference(unittest.TestCase):
    def hold(self, calls):
        before = list(calls)
        expected = reference_answers(calls)
        self.assertEqual(answers(calls), expected)
        self.assertEqual(calls, before)
        self.assertEqual(answers(calls), expected)
        self.assertEqual(calls, before)

    def test_mixed_lists(self):
        for calls in mixed_lists(200):
            self.hold(calls)

    def test_200_calls_with_120_deeds_and_8_desks(self):
        for seed in range(12):
            self.hold(random_full_calls(random.Random(seed)))


class AroundTheProgram(unittest.TestCase):
    def test_prints_and_reads_and_imports_nothing(self):
        calls = random_full_calls(random.Random(0))
        expected = reference_answers(calls)
        loaded = sorted(sys.modules)
        printed = io.StringIO()
        stdin, sys.stdin = sys.stdin, None
        try:
            with contextlib.redirect_stdout(printed), contextlib.redirect_stderr(printed):
                found = answers(calls)
        finally:
            sys.stdin = stdin
        self.assertEqual(found, expected)
        self.assertEqual(printed.getvalue(), "")
        self.assertEqual(sorted(sys.modules), loaded)

    def test_what_is_nested_is_gone_through_by_loops(self):
        looks = [1, 2] + [2, 0, 0] * 120 + [6, 1, 0, 7, 1, 8, 1, 9, 1, 10, 0, 1]
        expected = reference_answers(looks)
        limit = sys.getrecursionlimit()
        sys.setrecursionlimit(len(inspect.stack(0)) + 20)
        try:
            found = answers(looks)
        finally:
            sys.setrecursionlimit(limit)
        self.assertEqual(found, expected)


if __name__ == "__main__":
    unittest.main()

"""The calls by name, and what `answers` answers to them, call by call."""

from manyhandssheet.desks import answers
from reference import split_answers

TOP = 18446744073709551615
OUT_OF_RANGE, NO_SUCH, NOT_IN_ROW, NO_MORE_DEEDS = [-1], [-2], [-3], [-5]


def begin(desks):
    return (1, desks)


def put(desk, i):
    return (2, desk, i)


def move(desk, thing, i):
    return (3, desk, thing, i)


def out(desk, thing):
    return (4, desk, thing)


def tell(deed, desk):
    return (5, deed, desk)


def meet(desk, other):
    return (6, desk, other)


def row(desk):
    return (7, desk)


def spots(desk):
    return (8, desk)


def waits(desk):
    return (9, desk)


def same(desk, other):
    return (10, desk, other)


def as_list(calls):
    return [number for call in calls for number in call]


def ask(*calls):
    parts = split_answers(answers(as_list(calls)))
    if len(parts) != len(calls):
        raise AssertionError(f"{len(calls)} calls, {len(parts)} answers")
    return parts


def last(*calls):
    return ask(*calls)[-1]


def full_house(desks=1):
    return [begin(desks)] + [put(0, i) for i in range(120)]

"""One house of desks that keep one row together, and the calls on it."""

MOST_DESKS = 8
MOST_DEEDS = 120

# Stands where a deed's number stands, and is none: deeds are numbered from 0 on.
BEGINNING = -1
LEFT = "left"
RIGHT = "right"

OUT_OF_RANGE = -1
NO_SUCH = -2
NOT_IN_ROW = -3
NO_MORE_DEEDS = -5

BEGIN = 1
PUT = 2
MOVE = 3
OUT = 4
TELL = 5
MEET = 6
ROW = 7
SPOTS = 8
WAITS = 9
SAME = 10

# By a call's number: how many numbers follow it.
SIZES = {1: 1, 2: 2, 3: 3, 4: 2, 5: 2, 6: 2, 7: 1, 8: 1, 9: 1, 10: 2}


class Deed:
    """Makes a spot for a thing at a place, or takes the thing out (then its place is None).

    A place is a pair: the number of the deed at whose spot it is (or BEGINNING), and the side.
    """

    def __init__(self, number, count, desk, thing, place):
        self.number = number
        self.count = count
        self.desk = desk
        self.thing = thing
        self.place = place


def stamp(deed):
    return (deed.count, deed.desk)


def latest_first_by_place(deeds):
    by_place = {}
    for deed in sorted(deeds, key=stamp, reverse=True):
        if deed.place is not None:
            by_place.setdefault(deed.place, []).append(deed)
    return by_place


def spots_of(deeds):
    """Those of the deeds whose spots don't wait, from left to right."""
    by_place = latest_first_by_place(deeds)
    spots = []
    lefts_done = {}
    # Taken from the end: so what lies further right goes in first, and of one place the latest.
    ahead = list(by_place.get((BEGINNING, RIGHT), []))
    while len(ahead) > 0:
        deed = ahead.pop()
        if deed.number in lefts_done:
            spots.append(deed)
        else:
            lefts_done[deed.number] = True
            ahead.extend(by_place.get((deed.number, RIGHT), []))
            ahead.append(deed)
            ahead.extend(by_place.get((deed.number, LEFT), []))
    return spots


def last_deed_by_thing(deeds):
    last = {}
    for deed in sorted(deeds, key=stamp):
        last[deed.thing] = deed.number
    return last


def row_of(deeds):
    """Those of the deeds at whose spots a thing is, from left to right."""
    spots = spots_of(deeds)
    taking_out = [deed for deed in deeds if deed.place is None]
    last = last_deed_by_thing(spots + taking_out)
    return [deed for deed in spots if last[deed.thing] == deed.number]


def waiting_of(deeds):
    """Those of the deeds whose spots wait, the earliest stamp first."""
    come_to = numbers_of(spots_of(deeds))
    making_spots = [deed for deed in sorted(deeds, key=stamp) if deed.place is not None]
    return [deed for deed in making_spots if deed.number not in come_to]


def things_of(row):
    return [deed.thing for deed in row]


def numbers_of(deeds):
    return [deed.number for deed in deeds]


def is_in(deed, deeds):
    return deed.place is None or deed.number in numbers_of(spots_of(deeds))


def with_count(numbers):
    return [len(numbers)] + numbers


def spot_ahead(row, i):
    """The number of the deed behind whose spot a thing goes that is to be number i."""
    if i == 0:
        return BEGINNING
    return row[i - 1].number


def place_right_behind(deeds, number):
    """The place of a new spot right behind that of the deed of this number, or BEGINNING."""
    if (number, RIGHT) not in [deed.place for deed in deeds]:
        return (number, RIGHT)
    in_order = [BEGINNING] + numbers_of(spots_of(deeds))
    return (in_order[in_order.index(number) + 1], LEFT)


class House:
    """All deeds that were done, and which of them each desk knows."""

    def __init__(self):
        self.settle(1)

    def settle(self, desks):
        self.deeds = []
        self.things = 0
        self.known = [{} for desk in range(desks)]

    def has_desk(self, desk):
        return desk < len(self.known)

    def is_full(self):
        return len(self.deeds) >= MOST_DEEDS

    def deeds_known(self, desk):
        return list(self.known[desk].values())

    def do_deed(self, desk, thing, place):
        counts = [deed.count for deed in self.deeds_known(desk)]
        deed = Deed(len(self.deeds), max(counts, default=0) + 1, desk, thing, place)
        self.deeds.append(deed)
        self.known[desk][deed.number] = deed
        return deed.number

    def learn_from(self, desk, other):
        """How many deeds the desk learns of all that the other one knows."""
        before = len(self.known[desk])
        for deed in self.deeds_known(other):
            self.known[desk][deed.number] = deed
        return len(self.known[desk]) - before

    def begin(self, desks):
        if desks < 1 or desks > MOST_DESKS:
            return [OUT_OF_RANGE]
        self.settle(desks)
        return [0]

    def put(self, desk, i):
        if not self.has_desk(desk):
            return [NO_SUCH]
        deeds = self.deeds_known(desk)
        row = row_of(deeds)
        if i > len(row):
            return [OUT_OF_RANGE]
        if self.is_full():
            return [NO_MORE_DEEDS]
        thing = self.things
        self.things = thing + 1
        place = place_right_behind(deeds, spot_ahead(row, i))
        return [self.do_deed(desk, thing, place), thing]

    def move(self, desk, thing, i):
        if not self.has_desk(desk):
            return [NO_SUCH]
        deeds = self.deeds_known(desk)
        row = row_of(deeds)
        if thing not in things_of(row):
            return [NOT_IN_ROW]
        if i >= len(row):
            return [OUT_OF_RANGE]
        if self.is_full():
            return [NO_MORE_DEEDS]
        others = [deed for deed in row if deed.thing != thing]
        place = place_right_behind(deeds, spot_ahead(others, i))
        return [self.do_deed(desk, thing, place)]

    def out(self, desk, thing):
        if not self.has_desk(desk):
            return [NO_SUCH]
        if thing not in things_of(row_of(self.deeds_known(desk))):
            return [NOT_IN_ROW]
        if self.is_full():
            return [NO_MORE_DEEDS]
        return [self.do_deed(desk, thing, None)]

    def tell(self, number, desk):
        if number >= len(self.deeds) or not self.has_desk(desk):
            return [NO_SUCH]
        deed = self.deeds[number]
        self.known[desk][number] = deed
        deeds = self.deeds_known(desk)
        return [len(deeds), 1 if is_in(deed, deeds) else 0]

    def meet(self, desk, other):
        if not self.has_desk(desk) or not self.has_desk(other):
            return [NO_SUCH]
        by_desk = self.learn_from(desk, other)
        by_other = self.learn_from(other, desk)
        return [len(self.known[desk]), by_desk, by_other]

    def row(self, desk):
        if not self.has_desk(desk):
            return [NO_SUCH]
        return with_count(things_of(row_of(self.deeds_known(desk))))

    def spots(self, desk):
        if not self.has_desk(desk):
            return [NO_SUCH]
        return with_count(numbers_of(spots_of(self.deeds_known(desk))))

    def waits(self, desk):
        if not self.has_desk(desk):
            return [NO_SUCH]
        return with_count(numbers_of(waiting_of(self.deeds_known(desk))))

    def same(self, desk, other):
        if not self.has_desk(desk) or not self.has_desk(other):
            return [NO_SUCH]
        same_deeds = sorted(self.known[desk]) == sorted(self.known[other])
        same_row = self.row(desk) == self.row(other)
        return [1 if same_deeds else 0, 1 if same_row else 0]


def answer_to(house, call, numbers):
    if call == BEGIN:
        return house.begin(numbers[0])
    if call == PUT:
        return house.put(numbers[0], numbers[1])
    if call == MOVE:
        return house.move(numbers[0], numbers[1], numbers[2])
    if call == OUT:
        return house.out(numbers[0], numbers[1])
    if call == TELL:
        return house.tell(numbers[0], numbers[1])
    if call == MEET:
        return house.meet(numbers[0], numbers[1])
    if call == ROW:
        return house.row(numbers[0])
    if call == SPOTS:
        return house.spots(numbers[0])
    if call == WAITS:
        return house.waits(numbers[0])
    return house.same(numbers[0], numbers[1])


def answers(calls):
    """For each call, in order: how many numbers are answered, then these."""
    house = House()
    answered = []
    start = 0
    while start < len(calls):
        end = start + 1 + SIZES[calls[start]]
        answer = answer_to(house, calls[start], calls[start + 1:end])
        answered.append(len(answer))
        answered.extend(answer)
        start = end
    return answered

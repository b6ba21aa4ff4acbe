"""The ten calls once more, worked out in another way, to hold the program's answers against.

Spots are put in order by a key for each, not by a walk: the way from the beginning down to the spot.
"""

BEGINNING = None
SIZES = {1: 1, 2: 2, 3: 3, 4: 2, 5: 2, 6: 2, 7: 1, 8: 1, 9: 1, 10: 2}


def split_calls(calls):
    parts = []
    rest = list(calls)
    while rest:
        size = 1 + SIZES[rest[0]]
        parts.append(tuple(rest[:size]))
        rest = rest[size:]
    return parts


def split_answers(answered):
    parts = []
    rest = list(answered)
    while rest:
        size = rest[0]
        if size < 1 or len(rest) < 1 + size:
            raise ValueError("a count does not fit what is behind it")
        parts.append(rest[1:1 + size])
        rest = rest[1 + size:]
    return parts


class Reference:
    def __init__(self):
        self.begin(1)

    def begin(self, desks):
        if not 1 <= desks <= 8:
            return [-1]
        self.stamps, self.thing_of, self.kind, self.at = [], [], [], []
        self.knows = [set() for _ in range(desks)]
        self.next_thing = 0
        return [0]

    def key(self, deed, known):
        """None if the deed's spot waits."""
        key = [(1,)]
        while deed is not BEGINNING:
            if deed not in known:
                return None
            key.append((0 if self.kind[deed] == "left" else 2,) + self.stamps[deed])
            deed = self.at[deed]
        return key[:0:-1] + key[:1]

    def spots(self, desk):
        known = self.knows[desk]
        keyed = [(self.key(d, known), d) for d in known if self.kind[d] != "out"]
        return [d for _, d in sorted(pair for pair in keyed if pair[0] is not None)]

    def is_in(self, deed, desk):
        return self.kind[deed] == "out" or self.key(deed, self.knows[desk]) is not None

    def waiting(self, desk):
        return [d for d in sorted(self.knows[desk], key=self.stamps.__getitem__) if not self.is_in(d, desk)]

    def row_deeds(self, desk):
        line = self.spots(desk)
        come_to = set(line)
        last = {}
        for d in self.knows[desk]:
            if d in come_to or self.kind[d] == "out":
                last[self.thing_of[d]] = max(last.get(self.thing_of[d], d), d, key=self.stamps.__getitem__)
        return [d for d in line if last[self.thing_of[d]] == d]

    def row(self, desk):
        return [self.thing_of[d] for d in self.row_deeds(desk)]

    def behind(self, desk, at):
        if not any(self.kind[d] == "right" and self.at[d] == at for d in self.knows[desk]):
            return "right", at
        spots = self.spots(desk)
        return "left", spots[0 if at is BEGINNING else spots.index(at) + 1]

    def do(self, desk, thing, kind, at):
        count = 1 + max([self.stamps[d][0] for d in self.knows[desk]], default=0)
        self.stamps.append((count, desk))
        self.thing_of.append(thing)
        self.kind.append(kind)
        self.at.append(at)
        self.knows[desk].add(len(self.stamps) - 1)
        return len(self.stamps) - 1

    def put(self, desk, i):
        if desk >= len(self.knows):
            return [-2]
        row = self.row_deeds(desk)
        if len(row) < i:
            return [-1]
        if len(self.stamps) == 120:
            return [-5]
        self.next_thing += 1
        kind, at = self.behind(desk, ([BEGINNING] + row)[i])
        return [self.do(desk, self.next_thing - 1, kind, at), self.next_thing - 1]

    def move(self, desk, thing, i):
        if desk >= len(self.knows):
            return [-2]
        row = self.row_deeds(desk)
        rest = [d for d in row if self.thing_of[d] != thing]
        if len(rest) == len(row):
            return [-3]
        if i >= len(row):
            return [-1]
        if len(self.stamps) == 120:
            return [-5]
        kind, at = self.behind(desk, ([BEGINNING] + rest)[i])
        return [self.do(desk, thing, kind, at)]

    def out(self, desk, thing):
        if desk >= len(self.knows):
            return [-2]
        if thing not in self.row(desk):
            return [-3]
        if len(self.stamps) == 120:
            return [-5]
        return [self.do(desk, thing, "out", BEGINNING)]

    def tell(self, deed, desk):
        if deed >= len(self.stamps) or desk >= len(self.knows):
            return [-2]
        self.knows[desk].add(deed)
        return [len(self.knows[desk]), int(self.is_in(deed, desk))]

    def meet(self, desk, other):
        union = self.knows[desk] | self.knows[other]
        learned = [len(union) - len(self.knows[one]) for one in (desk, other)]
        self.knows[desk], self.knows[other] = set(union), set(union)
        return [len(union)] + learned

    def look(self, kind, desk):
        found = {7: self.row, 8: self.spots, 9: self.waiting}[kind](desk)
        return [len(found)] + found

    def same(self, desk, other):
        return [int(self.knows[desk] == self.knows[other]), int(self.row(desk) == self.row(other))]

    def call(self, numbers):
        kind, handed_in = numbers[0], numbers[1:]
        if kind > 5:
            if max(handed_in) >= len(self.knows):
                return [-2]
            if kind in (7, 8, 9):
                return self.look(kind, *handed_in)
        named = {1: self.begin, 2: self.put, 3: self.move, 4: self.out, 5: self.tell, 6: self.meet, 10: self.same}
        return named[kind](*handed_in)


def answers(calls):
    house = Reference()
    answered = []
    for call in split_calls(calls):
        answer = house.call(call)
        answered += [len(answer)] + answer
    return answered


def random_call(rng, house, weights):
    """A call that mostly fits the house as it is; at times one that is to be refused."""
    desks, done = len(house.knows), len(house.stamps)
    desk, other = rng.randrange(desks), rng.randrange(desks)
    row = house.row(desk)

    def off(number):
        return rng.choice([number, number, number, number + 1, 2 ** 64 - 1]) if rng.random() < 0.05 else number

    def off_desk(number):
        return rng.choice([desks, desks + 1, 2 ** 64 - 1]) if rng.random() < 0.03 else number

    thing = rng.choice(row) if row and rng.random() < 0.9 else rng.randrange(house.next_thing + 1)
    kind = rng.choices(range(1, 11), weights)[0]
    if kind == 1:
        return (1, rng.choice([0, 1, 2, 3, 8, 9, 2 ** 64 - 1]))
    if kind == 2:
        return (2, off_desk(desk), off(rng.randrange(len(row) + 1)))
    if kind == 3:
        return (3, off_desk(desk), off(thing), off(rng.randrange(max(1, len(row)))))
    if kind == 4:
        return (4, off_desk(desk), off(thing))
    if kind == 5:
        return (5, off(rng.randrange(max(1, done))), off_desk(desk))
    if kind in (7, 8, 9):
        return (kind, off_desk(desk))
    return (kind, off_desk(desk), off_desk(other))


def random_calls(rng, desks, how_many, weights):
    """A list of calls, the first of them a begin of so many desks."""
    house = Reference()
    calls = [(1, desks)]
    house.begin(desks)
    while len(calls) < how_many:
        calls.append(random_call(rng, house, weights))
        house.call(calls[-1])
    return [number for call in calls for number in call]


def random_deed(rng, house):
    """A put, move or out that is not refused."""
    desk = rng.randrange(len(house.knows))
    row = house.row(desk)
    if not row or rng.random() < 0.6:
        return (2, desk, rng.randrange(len(row) + 1))
    if rng.random() < 0.75:
        return (3, desk, rng.choice(row), rng.randrange(len(row)))
    return (4, desk, rng.choice(row))


def random_full_calls(rng):
    """200 calls: a begin of 8 desks, and spread among others all 120 deeds."""
    house = Reference()
    calls = [(1, 8)]
    house.begin(8)
    others = [0, 0, 0, 0, 30, 10, 10, 10, 10, 10]
    for is_deed in rng.sample([True] * 120 + [False] * 79, 199):
        calls.append(random_deed(rng, house) if is_deed else random_call(rng, house, others))
        house.call(calls[-1])
    if len(house.stamps) != 120:
        raise ValueError("a deed was refused")
    return [number for call in calls for number in call]

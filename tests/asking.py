"""Writes lists of calls, takes apart what is answered, and holds a plain model to compare with."""

import functools

from tubedrops.rack import answers


def begins(holds, tubes):
    return [0, holds, tubes]


def fill(tube, colours):
    return [1, tube, len(colours)] + list(colours)


def pour(tube, other):
    return [2, tube, other]


def may(tube, other):
    return [3, tube, other]


SORTED = [4]
FEWEST = [5]
PLAN = [6]
REACH = [7]


def lost(tube, other):
    return [8, tube, other]


def tube_of(tube):
    return [9, tube]


STATE = [10]


def rack_of(holds, tubes):
    """The calls that lay out a rack."""
    calls = [begins(holds, len(tubes))]
    return calls + [fill(tube, colours) for tube, colours in enumerate(tubes)]


def ask(calls):
    """Hand in a list of calls; give what each answers: a number alone, or a tuple of a number and its lists."""
    flat = [number for call in calls for number in call]
    given = answers(flat)
    assert type(given) is list, given
    assert all(type(number) is int for number in given), given
    answered = []
    at = 0
    for call in calls:
        end = at + 1 + given[at]
        assert end <= len(given), (call, given)
        answered.append(taken_apart(call, given[at + 1:end]))
        at = end
    assert at == len(given), given
    return answered


def taken_apart(call, numbers):
    """Take apart what one call answers; see to it that it has as many lists as are told."""
    number = numbers[0]
    rows = []
    at = 1
    while at < len(numbers):
        end = at + 1 + numbers[at]
        assert end <= len(numbers), (call, numbers)
        rows.append(numbers[at + 1:end])
        at = end
    told = {6: 1, 7: 1, 8: 1 if number == 0 else 0, 9: 1, 10: 2}.get(call[0], 0)
    assert len(rows) == (told if number >= 0 else 0), (call, numbers)
    assert number >= 0 or number in (-1, -2, -4, -6, -9), (call, numbers)
    return (number, *rows) if rows else number


def last(calls):
    return ask(calls)[-1]


def everything(tubes):
    """Calls that tell how a rack of so many tubes lies, state first; the last of them empty it."""
    calls = [STATE] + [tube_of(tube) for tube in range(tubes)]
    calls += [may(tube, other) for tube in range(tubes) for other in range(tubes)]
    calls += [SORTED, FEWEST]
    return calls + [fill(tube, []) for tube in range(tubes)]


def pairs_of(numbers):
    """The pourings that a plan's list tells."""
    return list(zip(numbers[0::2], numbers[1::2], strict=True))


def mixed_rack(draw):
    """How many drops a tube holds, and tubes that as many drops of each colour, or a few less, lie in at random."""
    holds = draw.choice((2, 3, 3, 4))
    filled = draw.choice((2, 2, 3, 3, 4))
    empty = draw.choice((1, 1, 2)) if filled < 4 else 1
    drops = [colour for colour in range(filled) for _ in range(holds)]
    draw.shuffle(drops)
    drops = drops[:len(drops) - draw.choice((0, 0, 1, 2))]
    tubes = [drops[at * holds:(at + 1) * holds] for at in range(filled)] + [[]] * empty
    draw.shuffle(tubes)
    return holds, tubes


class PlainRack:
    """A rack that is poured drop by drop and looked ahead from by sets of racks."""

    def __init__(self, holds=1, tubes=((), ())):
        self.holds = holds
        self.tubes = [list(colours) for colours in tubes]
        self.done = 0

    def begins(self, holds, tubes):
        if holds not in (1, 2, 3, 4) or tubes not in (2, 3, 4, 5):
            return -1
        self.__init__(holds, [()] * tubes)
        return holds * tubes

    def fill(self, tube, colours):
        if tube not in range(len(self.tubes)):
            return -2
        if len(colours) > self.holds or set(colours) - {0, 1, 2, 3, 4, 5}:
            return -1
        self.tubes[tube] = list(colours)
        return len(sum(self.tubes, []))

    def moved(self, tube, other):
        """Pour drop by drop; tell how many went."""
        source, target = self.tubes[tube], self.tubes[other]
        went = 0
        while tube != other and source and len(target) < self.holds and target[-1:] in ([], source[-1:]):
            target.append(source.pop())
            went += 1
        return went

    def pour(self, tube, other):
        if tube >= len(self.tubes) or other >= len(self.tubes):
            return -2
        went = self.moved(tube, other)
        self.done += went > 0
        return went or -6

    def may(self, tube, other):
        if tube >= len(self.tubes) or other >= len(self.tubes):
            return -2
        return -1 if tube == other else PlainRack(self.holds, self.tubes).moved(tube, other)

    def sorted(self):
        pairs = {(colour, tube) for tube, colours in enumerate(self.tubes) for colour in colours}
        colours = [colour for colour, tube in pairs]
        tubes = [tube for colour, tube in pairs]
        return int(len(set(colours)) == len(colours) and len(set(tubes)) == len(tubes))

    def here(self):
        return tuple(map(tuple, self.tubes))

    def fewest(self):
        ahead, needed = looked_ahead(self.holds, self.here())
        return -9 if ahead is None else needed.get(self.here(), -6)

    def plan(self):
        """Go, from rack to rack, by the least of those pourings behind which one pouring less is needed."""
        ahead, needed = looked_ahead(self.holds, self.here())
        if self.fewest() < 0:
            return self.fewest()
        here = self.here()
        numbers = []
        while needed[here] > 0:
            nearer = [pair for pair, there in ahead[here].items() if needed.get(there) == needed[here] - 1]
            numbers.extend(min(nearer))
            here = ahead[here][min(nearer)]
        return self.fewest(), numbers

    def reach(self):
        ahead, needed = looked_ahead(self.holds, self.here())
        if ahead is None:
            return -9
        return len(ahead), [list(needed.values()).count(0), len(ahead) - len(needed)]

    def lost(self, tube, other):
        if tube >= len(self.tubes) or other >= len(self.tubes):
            return -2
        ahead, needed = looked_ahead(self.holds, self.here())
        if ahead is None:
            return -9
        there = ahead[self.here()].get((tube, other))
        if there is None:
            return -6
        if self.here() not in needed:
            return -4
        return (0, [needed[there]]) if there in needed else 1

    def tube(self, tube):
        return (len(self.tubes[tube]), self.tubes[tube][:]) if tube < len(self.tubes) else -2

    def state(self):
        contents = [number for colours in self.tubes for number in [len(colours), *colours]]
        return self.done, [self.holds, len(self.tubes)], contents

    def answer(self, call):
        if call[0] == 1:
            return self.fill(call[1], call[3:])
        return (
            self.begins, None, self.pour, self.may, self.sorted, self.fewest,
            self.plan, self.reach, self.lost, self.tube, self.state,
        )[call[0]](*call[1:])


def one_on(holds, here):
    """The racks that one pouring leads to, by the pourings."""
    racks = {}
    for tube in range(len(here)):
        for other in range(len(here)):
            there = PlainRack(holds, here)
            if there.moved(tube, other):
                racks[tube, other] = there.here()
    return racks


@functools.lru_cache(maxsize=None)
def looked_ahead(holds, tubes):
    """The racks that can come about, with what leads where; and how few pourings sort each that can be sorted."""
    ahead = {}
    newest = {tubes}
    while newest:
        ahead.update((here, one_on(holds, here)) for here in newest)
        if len(ahead) > 300:
            return None, None
        newest = {there for here in newest for there in ahead[here].values()} - set(ahead)
    needed = {}
    newest = {here for here in ahead if PlainRack(holds, here).sorted()}
    while newest:
        needed.update(dict.fromkeys(newest, max(needed.values(), default=-1) + 1))
        newest = {here for here in ahead if here not in needed and not needed.keys().isdisjoint(ahead[here].values())}
    return ahead, needed

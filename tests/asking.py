"""Writes lists of calls, takes apart what is answered, and holds a plain model to compare with."""

from tubedrops.rack import answers


def begins(holds, tubes):
    return [0, holds, tubes]


def fill(tube, colours):
    return [1, tube, len(colours)] + list(colours)


def pour(tube, other):
    return [2, tube, other]


def may(tube, other):
    return [3, tube, other]


SORTED = [4]
FEWEST = [5]


def rack_of(holds, tubes):
    """The calls that lay out a rack."""
    calls = [begins(holds, len(tubes))]
    return calls + [fill(tube, colours) for tube, colours in enumerate(tubes)]


def ask(calls):
    """Hand in a list of calls; give the one number that each answers."""
    flat = [number for call in calls for number in call]
    given = answers(flat)
    assert isinstance(given, list), given
    assert all(type(number) is int for number in given), given
    assert given[0::2] == [1] * len(calls), given
    assert len(given) == 2 * len(calls), given
    return given[1::2]


def last(calls):
    return ask(calls)[-1]


def everything(tubes):
    """Calls that tell how a rack of so many tubes lies; the last of them empty it."""
    calls = [may(tube, other) for tube in range(tubes) for other in range(tubes)]
    calls += [SORTED, FEWEST]
    return calls + [fill(tube, []) for tube in range(tubes)]


class PlainRack:
    """A rack that is poured drop by drop and looked ahead from by sets of racks."""

    def __init__(self, holds=1, tubes=((), ())):
        self.holds = holds
        self.tubes = [list(colours) for colours in tubes]

    def begins(self, holds, tubes):
        if holds not in (1, 2, 3, 4) or tubes not in (2, 3, 4, 5):
            return -1
        self.__init__(holds, [()] * tubes)
        return holds * tubes

    def fill(self, tube, colours):
        if tube not in range(len(self.tubes)):
            return -2
        if len(colours) > self.holds or set(colours) - {0, 1, 2, 3, 4, 5}:
            return -1
        self.tubes[tube] = list(colours)
        return len(sum(self.tubes, []))

    def moved(self, tube, other):
        """Pour drop by drop; tell how many went."""
        source, target = self.tubes[tube], self.tubes[other]
        went = 0
        while tube != other and source and len(target) < self.holds and target[-1:] in ([], source[-1:]):
            target.append(source.pop())
            went += 1
        return went

    def pour(self, tube, other):
        if tube >= len(self.tubes) or other >= len(self.tubes):
            return -2
        return self.moved(tube, other) or -6

    def may(self, tube, other):
        if tube >= len(self.tubes) or other >= len(self.tubes):
            return -2
        return -1 if tube == other else PlainRack(self.holds, self.tubes).moved(tube, other)

    def sorted(self):
        pairs = {(colour, tube) for tube, colours in enumerate(self.tubes) for colour in colours}
        colours = [colour for colour, tube in pairs]
        tubes = [tube for colour, tube in pairs]
        return int(len(set(colours)) == len(colours) and len(set(tubes)) == len(tubes))

    def fewest(self):
        found = -6
        pourings = 0
        known = set()
        newest = {tuple(map(tuple, self.tubes))}
        while newest:
            known |= newest
            if len(known) > 300:
                return -9
            if found < 0 and any(PlainRack(self.holds, tubes).sorted() for tubes in newest):
                found = pourings
            pourings += 1
            newest = {there for tubes in newest for there in self.one_on(tubes)} - known
        return found

    def one_on(self, tubes):
        for tube in range(len(tubes)):
            for other in range(len(tubes)):
                there = PlainRack(self.holds, tubes)
                if there.moved(tube, other):
                    yield tuple(map(tuple, there.tubes))

    def answer(self, call):
        if call[0] == 1:
            return self.fill(call[1], call[3:])
        return (self.begins, None, self.pour, self.may, self.sorted, self.fewest)[call[0]](*call[1:])

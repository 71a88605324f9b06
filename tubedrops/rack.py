"""The calls about one rack, as they are handed in and answered."""

from tubedrops.ahead import how_many_lead_on, plan_among, pourings_of, ways_to_each
from tubedrops.pouring import drops_going, is_sorted, poured, with_tube
from tubedrops.refusals import CANNOT_BE, NO_SUCH_TUBE, NOT_ALLOWED, NOTHING_LEADS_ON, TOO_MANY_RACKS

BEGINS = 0
FILL = 1
POUR = 2
MAY = 3
SORTED = 4
FEWEST = 5
PLAN = 6
REACH = 7
LOST = 8
TUBE = 9

# By a call's number: how many whole numbers it is handed ahead of its row, if it has one.
WHOLE_NUMBERS = (2, 1, 2, 2, 0, 0, 0, 0, 2, 1, 0)

HIGHEST_COLOUR = 5


class Tubes:
    """The tubes that one list of calls is about, how many drops each of them holds, and how many pourings were done.

    What answers lists, too, gives its number and then a tuple of the lists, an empty one where there are none.
    """

    def __init__(self):
        self.holds = 1
        self.rack = ((), ())
        self.done = 0

    def begins(self, holds, tubes):
        """Begin anew with so many empty tubes; tell how many drops they hold together."""
        if not 1 <= holds <= 4 or not 2 <= tubes <= 5:
            return NOT_ALLOWED
        self.holds = holds
        self.rack = ((),) * tubes
        self.done = 0
        return holds * tubes

    def fill(self, tube, colours):
        """Put these drops into a tube instead of what was; tell how many drops there are in all tubes."""
        if tube >= len(self.rack):
            return NO_SUCH_TUBE
        if len(colours) > self.holds or max(colours, default=0) > HIGHEST_COLOUR:
            return NOT_ALLOWED
        self.rack = with_tube(self.rack, tube, tuple(colours))
        return sum([len(drops) for drops in self.rack])

    def pour(self, tube, other):
        """Pour from a tube into another one; tell how many drops went."""
        if max(tube, other) >= len(self.rack):
            return NO_SUCH_TUBE
        going = drops_going(self.rack, self.holds, tube, other)
        if going == 0:
            return CANNOT_BE
        self.rack = poured(self.rack, tube, other, going)
        self.done += 1
        return going

    def may(self, tube, other):
        """Tell how many drops would go from a tube into another one."""
        if max(tube, other) >= len(self.rack):
            return NO_SUCH_TUBE
        if tube == other:
            return NOT_ALLOWED
        return drops_going(self.rack, self.holds, tube, other)

    def sortedness(self):
        """Tell 1 if the rack is sorted, else 0."""
        return 1 if is_sorted(self.rack) else 0

    def fewest(self):
        """Tell how many pourings a plan has."""
        return self.plan()[0]

    def plan(self):
        """Tell how many pourings a plan has; list, for each of them, from which tube, into which."""
        ways = ways_to_each(self.rack, self.holds)
        if ways is None:
            return TOO_MANY_RACKS, ()
        way = plan_among(ways)
        if way is None:
            return CANNOT_BE, ()
        return pourings_of(way), (way,)

    def reach(self):
        """Tell how many racks can come about; list how many are sorted, and from how many nothing leads to that."""
        ways = ways_to_each(self.rack, self.holds)
        if ways is None:
            return TOO_MANY_RACKS, ()
        in_order = len([rack for rack in ways if is_sorted(rack)])
        return len(ways), ((in_order, len(ways) - how_many_lead_on(ways, self.holds)),)

    def lost(self, tube, other):
        """Tell 1 if nothing would lead to a sorted rack behind that pouring; else 0, and list how few would then."""
        if max(tube, other) >= len(self.rack):
            return NO_SUCH_TUBE, ()
        ways = ways_to_each(self.rack, self.holds)
        if ways is None:
            return TOO_MANY_RACKS, ()
        going = drops_going(self.rack, self.holds, tube, other)
        if going == 0:
            return CANNOT_BE, ()
        if plan_among(ways) is None:
            return NOTHING_LEADS_ON, ()
        # What can come about behind the pouring can come about now: so there are not too many racks then either.
        way = plan_among(ways_to_each(poured(self.rack, tube, other, going), self.holds))
        if way is None:
            return 1, ()
        return 0, ((pourings_of(way),),)

    def drops_in(self, tube):
        """Tell how many drops a tube has; list their colours, from the bottom up."""
        if tube >= len(self.rack):
            return NO_SUCH_TUBE, ()
        return len(self.rack[tube]), (self.rack[tube],)

    def state(self):
        """Tell how many pourings were done; list how large the rack is, and what is in each tube."""
        contents = []
        for drops in self.rack:
            contents.append(len(drops))
            contents.extend(drops)
        return self.done, ((self.holds, len(self.rack)), contents)


def behind_call(calls, at):
    """Tell where the call ends that stands there in the list."""
    end = at + 1 + WHOLE_NUMBERS[calls[at]]
    if calls[at] == FILL:
        return end + 1 + calls[end]
    return end


def number_alone(tubes, call):
    """Do one call of those that answer no list; give the number that it answers."""
    if call[0] == BEGINS:
        return tubes.begins(call[1], call[2])
    if call[0] == FILL:
        # call[2] is only how many colours there are.
        return tubes.fill(call[1], call[3:])
    if call[0] == POUR:
        return tubes.pour(call[1], call[2])
    if call[0] == MAY:
        return tubes.may(call[1], call[2])
    if call[0] == SORTED:
        return tubes.sortedness()
    # No other call of these is left but fewest, 5.
    return tubes.fewest()


def number_and_lists(tubes, call):
    """Do one call, its number ahead of what is handed over; give the number and the lists that it answers."""
    if call[0] <= FEWEST:
        return number_alone(tubes, call), ()
    if call[0] == PLAN:
        return tubes.plan()
    if call[0] == REACH:
        return tubes.reach()
    if call[0] == LOST:
        return tubes.lost(call[1], call[2])
    if call[0] == TUBE:
        return tubes.drops_in(call[1])
    # No other call is left but state, 10.
    return tubes.state()


def laid_out(number, lists):
    """Give an answer as it is handed back: all its numbers behind how many they are, so each of its lists, too."""
    numbers = [number]
    for row in lists:
        numbers.append(len(row))
        numbers.extend(row)
    return [len(numbers)] + numbers


def answers(calls):
    """Do the calls in their order, about new tubes; give of each how many numbers it answers, and these."""
    tubes = Tubes()
    answered = []
    at = 0
    while at < len(calls):
        end = behind_call(calls, at)
        number, lists = number_and_lists(tubes, calls[at:end])
        answered.extend(laid_out(number, lists))
        at = end
    return answered

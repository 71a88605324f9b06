"""The calls about one rack, as they are handed in and answered."""

from tubedrops.ahead import fewest_pourings
from tubedrops.pouring import drops_going, is_sorted, poured, with_tube
from tubedrops.refusals import CANNOT_BE, NO_SUCH_TUBE, NOT_ALLOWED

BEGINS = 0
FILL = 1
POUR = 2
MAY = 3
SORTED = 4

# By a call's number: how many whole numbers it is handed ahead of its row, if it has one.
WHOLE_NUMBERS = (2, 1, 2, 2, 0, 0)

HIGHEST_COLOUR = 5


class Tubes:
    """The tubes that one list of calls is about, and how many drops each of them holds."""

    def __init__(self):
        self.holds = 1
        self.rack = ((), ())

    def begins(self, holds, tubes):
        """Begin anew with so many empty tubes; tell how many drops they hold together."""
        if not 1 <= holds <= 4 or not 2 <= tubes <= 5:
            return NOT_ALLOWED
        self.holds = holds
        self.rack = ((),) * tubes
        return holds * tubes

    def fill(self, tube, colours):
        """Put these drops into a tube instead of what was; tell how many drops there are in all tubes."""
        if tube >= len(self.rack):
            return NO_SUCH_TUBE
        if len(colours) > self.holds or max(colours, default=0) > HIGHEST_COLOUR:
            return NOT_ALLOWED
        self.rack = with_tube(self.rack, tube, tuple(colours))
        return sum([len(drops) for drops in self.rack])

    def pour(self, tube, other):
        """Pour from a tube into another one; tell how many drops went."""
        if max(tube, other) >= len(self.rack):
            return NO_SUCH_TUBE
        going = drops_going(self.rack, self.holds, tube, other)
        if going == 0:
            return CANNOT_BE
        self.rack = poured(self.rack, tube, other, going)
        return going

    def may(self, tube, other):
        """Tell how many drops would go from a tube into another one."""
        if max(tube, other) >= len(self.rack):
            return NO_SUCH_TUBE
        if tube == other:
            return NOT_ALLOWED
        return drops_going(self.rack, self.holds, tube, other)

    def sortedness(self):
        """Tell 1 if the rack is sorted, else 0."""
        return 1 if is_sorted(self.rack) else 0

    def fewest(self):
        """Tell how many pourings a plan has."""
        return fewest_pourings(self.rack, self.holds)


def behind_call(calls, at):
    """Tell where the call ends that stands there in the list."""
    end = at + 1 + WHOLE_NUMBERS[calls[at]]
    if calls[at] == FILL:
        return end + 1 + calls[end]
    return end


def answer(tubes, call):
    """Do one call, its number ahead of what is handed over; give the number that it answers."""
    if call[0] == BEGINS:
        return tubes.begins(call[1], call[2])
    if call[0] == FILL:
        # call[2] is only how many colours there are.
        return tubes.fill(call[1], call[3:])
    if call[0] == POUR:
        return tubes.pour(call[1], call[2])
    if call[0] == MAY:
        return tubes.may(call[1], call[2])
    if call[0] == SORTED:
        return tubes.sortedness()
    # No other call is left but fewest, 5.
    return tubes.fewest()


def answers(calls):
    """Do the calls in their order, about new tubes; give of each how many numbers it answers, and these."""
    tubes = Tubes()
    answered = []
    at = 0
    while at < len(calls):
        end = behind_call(calls, at)
        # Each of these calls answers one number and no list.
        answered.extend([1, answer(tubes, calls[at:end])])
        at = end
    return answered

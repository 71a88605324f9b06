"""The racks that can come about from a rack, and how few pourings lead to them."""

from tubedrops.pouring import drops_going, is_sorted, poured
from tubedrops.refusals import CANNOT_BE, TOO_MANY_RACKS

MOST_RACKS = 300


def one_pouring_on(rack, holds):
    """List the racks that one pouring leads to."""
    racks = []
    for tube in range(len(rack)):
        for other in range(len(rack)):
            going = drops_going(rack, holds, tube, other)
            if going > 0:
                racks.append(poured(rack, tube, other, going))
    return racks


def pourings_to_each(rack, holds):
    """Give, for each rack that can come about, how few pourings lead to it; None if there are too many racks."""
    pourings = {rack: 0}
    reached = [rack]
    gone_through = 0
    # First come, first gone through: so each rack is first met by as few pourings as can be.
    while gone_through < len(reached):
        here = reached[gone_through]
        gone_through += 1
        for there in one_pouring_on(here, holds):
            if there not in pourings:
                pourings[there] = pourings[here] + 1
                reached.append(there)
        if len(reached) > MOST_RACKS:
            return None
    return pourings


def fewest_pourings(rack, holds):
    """Tell how many pourings a plan has, or refuse."""
    pourings = pourings_to_each(rack, holds)
    if pourings is None:
        return TOO_MANY_RACKS
    return min([pourings[there] for there in pourings if is_sorted(there)], default=CANNOT_BE)

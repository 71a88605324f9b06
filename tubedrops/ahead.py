"""The racks that can come about from a rack, and the pourings that lead to them."""

from tubedrops.pouring import drops_going, is_sorted, poured

MOST_RACKS = 300


def pourings_on(rack, holds):
    """List the pourings that can be done: from which tube, into which, and the rack that is there then."""
    pourings = []
    for tube in range(len(rack)):
        for other in range(len(rack)):
            going = drops_going(rack, holds, tube, other)
            if going > 0:
                pourings.append((tube, other, poured(rack, tube, other, going)))
    return pourings


def ways_to_each(rack, holds):
    """Give, for each rack that can come about, a way to it; None if there are too many racks.

    A way is as few pourings as can be: from which tube, into which, from which, into which ..
    """
    ways = {rack: ()}
    reached = [rack]
    gone_through = 0
    # First come, first gone through: so each rack is first met by as few pourings as can be, and, as pourings_on
    # begins at the lesser tube, by that way of several whose first pouring that differs is from, or into, the lesser.
    while gone_through < len(reached):
        here = reached[gone_through]
        gone_through += 1
        for tube, other, there in pourings_on(here, holds):
            if there not in ways:
                ways[there] = ways[here] + (tube, other)
                reached.append(there)
        if len(reached) > MOST_RACKS:
            return None
    return ways


def pourings_of(way):
    """Tell how many pourings a way has."""
    return len(way) // 2


def plan_among(ways):
    """Give that of the ways that is a plan; None if none leads to a sorted rack."""
    # The ways stand in the order in which they were found, so the first that sorts is the plan.
    for there in ways:
        if is_sorted(there):
            return ways[there]
    return None


def racks_ahead_of_each(racks, holds):
    """Give, for each of these racks, those that lead to it by one pouring; all that come about are among them."""
    ahead = {}
    for rack in racks:
        ahead[rack] = []
    for here in racks:
        for pouring in pourings_on(here, holds):
            ahead[pouring[2]].append(here)
    return ahead


def how_many_lead_on(racks, holds):
    """Tell from how many of these racks pourings lead to a sorted one; all that come about are among them."""
    ahead = racks_ahead_of_each(racks, holds)
    leading = [rack for rack in racks if is_sorted(rack)]
    known = {}
    for rack in leading:
        known[rack] = True
    gone_through = 0
    # Back from the sorted racks, as looking ahead from each rack would take far longer.
    while gone_through < len(leading):
        here = leading[gone_through]
        gone_through += 1
        for rack in ahead[here]:
            if rack not in known:
                known[rack] = True
                leading.append(rack)
    return len(leading)

"""What a pouring does, and when a rack is sorted.

A rack is a tuple of its tubes; a tube is a tuple of the colours of its drops, from the bottom up.
"""


def with_tube(rack, tube, drops):
    """Give the rack that has these drops in that tube instead of what was."""
    changed = list(rack)
    changed[tube] = drops
    return tuple(changed)


def together_on_top(drops):
    """Tell how many drops on top lie together and are of the topmost one's colour."""
    together = 0
    for colour in reversed(drops):
        if colour != drops[-1]:
            break
        together += 1
    return together


def drops_going(rack, holds, tube, other):
    """Tell how many drops go from a tube into another one; none go if both are one."""
    drops = rack[tube]
    below = rack[other]
    if tube == other or not drops:
        return 0
    if below and below[-1] != drops[-1]:
        return 0
    return min(together_on_top(drops), holds - len(below))


def poured(rack, tube, other, going):
    """Give the rack once so many drops have gone from a tube into another one."""
    drops = rack[tube]
    left = len(drops) - going
    emptied = with_tube(rack, tube, drops[:left])
    return with_tube(emptied, other, rack[other] + drops[left:])


def is_sorted(rack):
    """Tell whether no tube has drops of two colours and no colour is in two tubes."""
    colours = []
    for drops in rack:
        if not drops:
            continue
        if drops[0] in colours or together_on_top(drops) != len(drops):
            return False
        colours.append(drops[0])
    return True

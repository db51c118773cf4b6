"""How soon the nut may be closed again while the carriage rests and the work turns forward."""

from threadlathe.exact import difference, greatest_divisor, quotient
from threadlathe.grooves import top_of


def soonest_of(ratio, off, start, step):
    # Off falls as the work turns forward, so of the closings that lie whole steps from the start
    # the first to come is the greatest one that is not above off.
    steps = (off[0] - start * off[1]) // (step * off[1])
    closing = start + steps * step
    return (quotient(difference(off, (closing, 1)), ratio), closing)


def soonest_meeting(ratio, off):
    return soonest_of(ratio, off, 0, 1)


def soonest_safe(ratio, off):
    return soonest_of(ratio, off, 0, top_of(ratio))


def first_safe_closing_at(top, teeth, mark):
    # Behind as many closings of the first groove as the dial has teeth, it shows the same marks again.
    for closing in range(0, top * teeth, top):
        if closing % teeth == mark:
            return closing
    return None


def soonest_at(ratio, teeth, off, mark):
    top = top_of(ratio)
    first = first_safe_closing_at(top, teeth, mark)
    if first is None:
        return None
    return soonest_of(ratio, off, first, top * teeth // greatest_divisor(top, teeth))

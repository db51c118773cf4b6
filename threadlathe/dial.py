"""The dial on the carriage: what it shows, and what its marks tell of the grooves."""

from threadlathe.exact import greatest_divisor, remainder
from threadlathe.grooves import groove_of, least_closing, top_of


def reading_of(off, teeth):
    return remainder(off, (teeth, 1))


def spoiling_at(ratio, teeth, mark):
    # Where the first two closings at a mark run in the first groove, the ratio's top divides the mark
    # and the teeth, and so every further closing there, which lies whole rounds of the teeth away.
    for closing in (mark, mark + teeth):
        if groove_of(ratio, closing) != 0:
            return closing
    return None


def safe_marks(ratio, teeth):
    return [mark for mark in range(teeth) if spoiling_at(ratio, teeth, mark) is None]


def marks_of(ratio, teeth, groove):
    # A groove's closings lie the ratio's top apart and the dial begins anew behind its teeth,
    # so the marks that it shows at them lie apart by what divides both.
    step = greatest_divisor(top_of(ratio), teeth)
    return list(range(least_closing(ratio, groove) % step, teeth, step))

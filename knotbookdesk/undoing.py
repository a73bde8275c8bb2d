"""Kinks and pokes, and drawings with these undone."""

from knotbookdesk.drawing import pairs_straight
from knotbookdesk.removing import without


def is_kink(crossing):
    """Whether a strand comes back to the crossing by the arc by which it left it."""
    return crossing.uo == crossing.oi or crossing.oo == crossing.ui


def is_poke(one, other):
    """Whether a strand goes over another one and back at these crossings."""
    # A crossing and itself are none: their signs don't differ.
    if one.sign == other.sign:
        return False
    above = one.oo == other.oi or other.oo == one.oi
    below = one.uo == other.ui or other.uo == one.ui
    return above and below


def undone(drawing, gone):
    """The drawing without the crossings whose numbers are in gone, the strands straight on there."""
    return without(drawing, gone, pairs_straight([drawing.crossings[number] for number in gone]))


def kinks(drawing):
    """Each kink as the list of its one crossing's number, from the least up."""
    return [[number] for number, crossing in enumerate(drawing.crossings) if is_kink(crossing)]


def pokes(drawing):
    """Each poke as the list of its crossings' numbers, the lesser first, from the least up."""
    found = []
    for number, crossing in enumerate(drawing.crossings):
        for behind in range(number + 1, len(drawing.crossings)):
            if is_poke(crossing, drawing.crossings[behind]):
                found.append([number, behind])
    return found


def undone_by_steps(drawing):
    """The drawing, and behind it what each step leaves as it is undone as far as it goes."""
    steps = [drawing]
    found = kinks(drawing) + pokes(drawing)
    while len(found) > 0:
        steps.append(undone(steps[-1], found[0]))
        found = kinks(steps[-1]) + pokes(steps[-1])
    return steps

"""Drawings from two drawings: beside one another, or joined by an arc of each."""

from knotbookdesk.drawing import Crossing, Drawing, count_arcs


def raised(crossing, more):
    """The crossing with its arcs' numbers higher by more."""
    return Crossing(crossing.ui + more, crossing.uo + more, crossing.oi + more, crossing.oo + more, crossing.sign)


def beside(one, other):
    """The first drawing's crossings and then the other's; circles together."""
    behind = [raised(crossing, count_arcs(one)) for crossing in other.crossings]
    return Drawing(one.crossings + behind, one.circles + other.circles)


def other_head(crossing, heads):
    """The crossing, where what comes in by an arc that heads has comes in by the arc that stands there for it."""
    ui = heads.get(crossing.ui, crossing.ui)
    oi = heads.get(crossing.oi, crossing.oi)
    return Crossing(ui, crossing.uo, oi, crossing.oo, crossing.sign)


def joined(one, arc, other, second_arc):
    """The drawings joined by an arc of the first and an arc of the other, each by its own numbers."""
    together = beside(one, other)
    moved = second_arc + count_arcs(one)
    heads = {arc: moved, moved: arc}
    return Drawing([other_head(crossing, heads) for crossing in together.crossings], together.circles)

"""Drawings from one drawing: mirrored, turned, flipped at a crossing, opened at a crossing."""

from knotbookdesk.drawing import Crossing, Drawing, pairs_along
from knotbookdesk.removing import without


def changed(crossing):
    """The crossing with the strand above below."""
    return Crossing(crossing.oi, crossing.oo, crossing.ui, crossing.uo, 1 - crossing.sign)


def run_back(crossing):
    """The crossing with both strands the other way; that leaves its sign as it was."""
    return Crossing(crossing.uo, crossing.ui, crossing.oo, crossing.oi, crossing.sign)


def mirrored(drawing):
    """The drawing with every crossing changed."""
    return Drawing([changed(crossing) for crossing in drawing.crossings], drawing.circles)


def turned(drawing):
    """The drawing with all strands the other way."""
    return Drawing([run_back(crossing) for crossing in drawing.crossings], drawing.circles)


def flipped(drawing, number):
    """The drawing with the crossing of this number changed."""
    crossings = list(drawing.crossings)
    crossings[number] = changed(crossings[number])
    return Drawing(crossings, drawing.circles)


def opened(drawing, number):
    """The drawing with the crossing of this number opened along the strands."""
    return without(drawing, [number], pairs_along(drawing.crossings[number]))

"""Crossings that go away, and the arcs that are joined where they were."""

from knotbookdesk.drawing import Crossing, Drawing, count_arcs
from knotbookdesk.joining import least_joined


def ends_of(crossing):
    """The arcs at its four ends."""
    return [crossing.ui, crossing.uo, crossing.oi, crossing.oo]


def arcs_met(crossings, least):
    """The joined arcs that meet one of the crossings, each by its least old number, from the least up."""
    met = []
    for crossing in crossings:
        met.extend([least[arc] for arc in ends_of(crossing)])
    return sorted(set(met))


def without(drawing, gone, pairs):
    """The drawing without the crossings whose numbers are in gone, the arcs of each pair joined."""
    left = [crossing for number, crossing in enumerate(drawing.crossings) if number not in gone]
    least = least_joined(count_arcs(drawing), pairs)
    met = arcs_met(left, least)
    crossings = []
    for crossing in left:
        arcs = [met.index(least[arc]) for arc in ends_of(crossing)]
        crossings.append(Crossing(arcs[0], arcs[1], arcs[2], arcs[3], crossing.sign))
    # A joined arc that meets none of the crossings that are left has closed to a circle.
    closed = len(set(least)) - len(met)
    return Drawing(crossings, drawing.circles + closed)

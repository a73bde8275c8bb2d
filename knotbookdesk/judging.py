"""Whether numbers that are handed over are a drawing."""

from knotbookdesk.drawing import NUMBERS_EACH, count_arcs, count_crossing_pieces, count_faces

MOST_CROSSINGS = 8
MOST_CIRCLES = 4


def five_as_told(row, at, arcs):
    """Whether the five numbers from at on are four arcs below arcs and a sign."""
    return max(row[at:at + 4]) < arcs and row[at + 4] <= 1


def numbers_as_told(circles, row):
    """Whether circles and row are in the bounds that the numbers of a drawing keep to."""
    if len(row) % NUMBERS_EACH != 0:
        return False
    crossings = len(row) // NUMBERS_EACH
    if crossings > MOST_CROSSINGS or circles > MOST_CIRCLES or crossings + circles == 0:
        return False
    return all([five_as_told(row, at, 2 * crossings) for at in range(0, len(row), NUMBERS_EACH)])


def loose_arcs(drawing):
    """The arcs, from the least up, that don't go out just once and come in just once."""
    leaving = []
    arriving = []
    for crossing in drawing.crossings:
        leaving.extend([crossing.uo, crossing.oo])
        arriving.extend([crossing.ui, crossing.oi])
    return [arc for arc in range(count_arcs(drawing)) if leaving.count(arc) != 1 or arriving.count(arc) != 1]


def fits_ball(drawing):
    """Whether the drawing can be drawn on a ball; it must have no loose arc."""
    return count_faces(drawing) == len(drawing.crossings) + 2 * count_crossing_pieces(drawing)

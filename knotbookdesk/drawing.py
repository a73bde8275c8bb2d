"""A drawing, and what hangs together in it: strands, pieces, faces, circles when it is opened."""

from knotbookdesk.joining import count_groups, least_joined

NUMBERS_EACH = 5


class Crossing:
    """The arcs of the strand below (ui, uo) and of the strand above (oi, oo); sign is 1 for minus."""

    def __init__(self, ui, uo, oi, oo, sign):
        self.ui = ui
        self.uo = uo
        self.oi = oi
        self.oo = oo
        self.sign = sign


class Drawing:
    """Crossings in their order, and how many circles there are beside them."""

    def __init__(self, crossings, circles):
        self.crossings = crossings
        self.circles = circles


def crossings_from(row):
    """The crossings that a flat row of five numbers each stands for."""
    crossings = []
    for at in range(0, len(row), NUMBERS_EACH):
        crossings.append(Crossing(row[at], row[at + 1], row[at + 2], row[at + 3], row[at + 4]))
    return crossings


def row_from(crossings):
    """The flat row that stands for these crossings."""
    row = []
    for crossing in crossings:
        row.extend([crossing.ui, crossing.uo, crossing.oi, crossing.oo, crossing.sign])
    return row


def count_arcs(drawing):
    """How many arcs there are; circles have none."""
    return 2 * len(drawing.crossings)


def signed(crossing):
    """What the crossing adds to a sum of signs."""
    return -1 if crossing.sign == 1 else 1


def pairs_straight(crossings):
    """The arcs that follow one another straight on through these crossings."""
    pairs = []
    for crossing in crossings:
        pairs.extend([(crossing.ui, crossing.uo), (crossing.oi, crossing.oo)])
    return pairs


def first_arcs(drawing):
    """The least arc of each strand that has one, from strand 0 up."""
    return sorted(set(least_joined(count_arcs(drawing), pairs_straight(drawing.crossings))))


def strands_by_arc(drawing):
    """For each arc the strand it is of."""
    least = least_joined(count_arcs(drawing), pairs_straight(drawing.crossings))
    firsts = first_arcs(drawing)
    return [firsts.index(arc) for arc in least]


def count_strands(drawing):
    """How many strands there are, circles among them."""
    return len(first_arcs(drawing)) + drawing.circles


def count_crossing_pieces(drawing):
    """How many pieces the crossings fall into, circles left out."""
    pairs = pairs_straight(drawing.crossings)
    for crossing in drawing.crossings:
        pairs.append((crossing.ui, crossing.oi))
    # Each crossing has arcs and each arc has crossings, so groups of arcs are as many as groups of crossings.
    return count_groups(count_arcs(drawing), pairs)


def arcs_around(crossing):
    """Its four arcs against the clock."""
    if crossing.sign == 1:
        return [crossing.ui, crossing.oi, crossing.uo, crossing.oo]
    return [crossing.ui, crossing.oo, crossing.uo, crossing.oi]


def far_end(arcs, end):
    """The other end of the arc at this end, where arcs has the arc at each end."""
    ends = [number for number, arc in enumerate(arcs) if arc == arcs[end] and number != end]
    return ends[0]


def turned_end(end):
    """The next end against the clock at the same crossing; crossing x has the ends 4 x to 4 x + 3."""
    return end - end % 4 + (end + 1) % 4


def count_faces(drawing):
    """How many rounds the ends fall into; each arc must have just two ends."""
    arcs = []
    for crossing in drawing.crossings:
        arcs.extend(arcs_around(crossing))
    steps = [(end, turned_end(far_end(arcs, end))) for end in range(len(arcs))]
    return count_groups(len(arcs), steps)


def pairs_along(crossing):
    """The arcs that are joined when the crossing is opened along the strands."""
    return [(crossing.ui, crossing.oo), (crossing.oi, crossing.uo)]


def pairs_across(crossing):
    """The arcs that are joined when the crossing is opened across."""
    return [(crossing.ui, crossing.oi), (crossing.uo, crossing.oo)]


def pairs_opened(crossing, to_b):
    """The arcs that are joined when the crossing is opened to B (to_b is 1) or to A (to_b is 0)."""
    # A is along without minus and B is along with minus: along just where the two numbers agree.
    return pairs_along(crossing) if to_b == crossing.sign else pairs_across(crossing)


def count_circles_along(drawing):
    """How many circles there are when every crossing is opened along the strands."""
    pairs = []
    for crossing in drawing.crossings:
        pairs.extend(pairs_along(crossing))
    return count_groups(count_arcs(drawing), pairs) + drawing.circles


def count_circles_opened(drawing, state):
    """How many circles there are when crossing x is opened to B where bit x of state is 1, else to A."""
    pairs = []
    for number, crossing in enumerate(drawing.crossings):
        pairs.extend(pairs_opened(crossing, (state >> number) & 1))
    return count_groups(count_arcs(drawing), pairs) + drawing.circles

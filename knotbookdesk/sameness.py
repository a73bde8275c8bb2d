"""Whether two drawings are one but for the numbers of crossings and arcs."""


def heads_by_arc(drawing):
    """For each arc the crossing it comes in at, and 1 if above there, else 0."""
    heads = {}
    for number, crossing in enumerate(drawing.crossings):
        heads[crossing.ui] = (number, 0)
        heads[crossing.oi] = (number, 1)
    return heads


def told_from(drawing, start):
    """What a walk from the crossing start tells of its piece; crossings are called by when they are reached."""
    heads = heads_by_arc(drawing)
    reached = [start]
    told = []
    at = 0
    while at < len(reached):
        crossing = drawing.crossings[reached[at]]
        told.append(crossing.sign)
        for arc in (crossing.uo, crossing.oo):
            head = heads[arc]
            if head[0] not in reached:
                reached.append(head[0])
            told.extend([reached.index(head[0]), head[1]])
        at += 1
    return told


def told_from_each(drawing):
    """What walks from all crossings tell, in an order that doesn't hang on their numbers."""
    return sorted([told_from(drawing, start) for start in range(len(drawing.crossings))])


def are_same(one, other):
    """Whether the drawings are the same."""
    # As many arcs leave a crossing as come in, so a walk along the strands reaches the whole piece, and what it
    # tells is the piece but for numbers. Pieces that are the same tell the same from as many crossings: so all
    # that is told agrees just if there are as many pieces of each kind.
    return one.circles == other.circles and told_from_each(one) == told_from_each(other)

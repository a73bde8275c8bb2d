"""Many drawings (circles, row): grown by kinks, pokes and flips, with strands turned, joined, renumbered, by lot."""

from itertools import permutations, product

from tests import oracle
from tests.helping import NAMED, braid, renumbered


def size(drawing):
    return len(drawing[1]) // 5


def other_heads(row, heads):
    """The row, where what came in by an arc of heads comes in by the arc that stands there for it."""
    return [heads.get(number, number) if k % 5 in (0, 2) else number for k, number in enumerate(row)]


def with_kink(drawing, arc, below_first, sign):
    """The drawing with a kink in the arc, last of its crossings: of one of four kinds."""
    own, row = drawing
    loop = 2 * size(drawing)
    head = loop + 1
    five = [arc, loop, loop, head, sign] if below_first else [loop, head, arc, loop, sign]
    return own, other_heads(row, {arc: head}) + five


def circle_with_kink(drawing, below_first, sign):
    """The drawing with a kink in one of its circles."""
    own, row = drawing
    tail = 2 * size(drawing)
    five = [tail, tail + 1, tail + 1, tail, sign] if below_first else [tail + 1, tail, tail, tail + 1, sign]
    return own - 1, row + five


def with_poke(drawing, over, under, same_way):
    """All ways to lay the arc over over the arc under as a poke, its crossings last, that can be drawn on a ball."""
    own, row = drawing
    new = 2 * size(drawing)
    ways = []
    if over == under:
        parts = [over, new, new + 1, new + 2, new + 3]
        ways = [(parts[:3], parts[2:], {over: new + 3}), (parts[2:], parts[:3], {over: new + 3})]
    else:
        ways = [([over, new, new + 1], [under, new + 2, new + 3], {over: new + 1, under: new + 3})]
    drawn = []
    for (above, below, heads), sign in product(ways, range(2)):
        first, second = (below[:2], below[1:]) if same_way else (below[1:], below[:2])
        more = first + above[:2] + [sign] + second + above[1:] + [1 - sign]
        grown = (own, other_heads(row, heads) + more)
        if oracle.on_ball(grown[1]):
            drawn.append(grown)
    return drawn


def strand_turned(drawing, strand):
    """The drawing with one strand the other way."""
    own, row = drawing
    strands = oracle.strands(row)
    turned = []
    for ui, uo, oi, oo, sign in oracle.fives(row):
        if strands[ui] == strand:
            ui, uo, sign = uo, ui, 1 - sign
        if strands[oi] == strand:
            oi, oo, sign = oo, oi, 1 - sign
        turned += [ui, uo, oi, oo, sign]
    return own, turned


def mixed(drawing, lot):
    """The drawing with its crossings and arcs renumbered by lot."""
    n = size(drawing)
    return renumbered(drawing, lot.sample(range(n), n), lot.sample(range(2 * n), 2 * n))


def all_drawings(n):
    """Every drawing of n crossings without circles, once or more often, but for the numbers of its arcs."""
    found = []
    for out in permutations(range(2 * n)):
        for signs in product(range(2), repeat=n):
            row = []
            for x in range(n):
                row += [2 * x, out[2 * x], 2 * x + 1, out[2 * x + 1], signs[x]]
            if oracle.on_ball(row):
                found.append((0, row))
    return found


def one_step(drawing, lot):
    """The drawing with something more, or changed, by lot."""
    n = size(drawing)
    step = lot.choice(["kink", "poke", "poke", "flip", "turn"])
    if n == 0:
        return circle_with_kink(drawing, lot.choice([True, False]), lot.randrange(2))
    arc = lot.randrange(2 * n)
    if step == "kink" and n < 8:
        return with_kink(drawing, arc, lot.choice([True, False]), lot.randrange(2))
    if step == "poke" and n < 7:
        ways = with_poke(drawing, arc, lot.randrange(2 * n), lot.choice([True, False]))
        return lot.choice(ways) if ways else drawing
    if step == "flip":
        return oracle.flipped(drawing, lot.randrange(n))
    if step == "turn":
        return strand_turned(drawing, oracle.strands(drawing[1])[arc])
    return drawing


def many(lot, times):
    """Drawings by lot, of up to 8 crossings and 4 circles."""
    seeds = list(NAMED.values())
    found = []
    for time in range(times):
        drawing = lot.choice(seeds)
        if lot.randrange(2):
            width = lot.randrange(2, 5)
            letters = [k for k in range(1 - width, width) if k != 0]
            drawing = braid(width, [lot.choice(letters) for k in range(lot.randrange(1, 7))])
        for step in range(lot.randrange(12)):
            drawing = one_step(drawing, lot)
        found.append(mixed(drawing, lot))
    return found

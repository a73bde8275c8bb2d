"""The document's words once more, by other ways than the program's: slow, with fractions, by walking."""

from fractions import Fraction
from itertools import permutations, product


def fives(row):
    return [tuple(row[k:k + 5]) for k in range(0, len(row), 5)]


def loose_arc(row):
    """The least arc that doesn't go out just once and come in just once; None if there's none."""
    out = {}
    into = {}
    for ui, uo, oi, oo, sign in fives(row):
        for arc in (uo, oo):
            out[arc] = out.get(arc, 0) + 1
        for arc in (ui, oi):
            into[arc] = into.get(arc, 0) + 1
    for arc in range(2 * len(row) // 5):
        if (out.get(arc), into.get(arc)) != (1, 1):
            return arc
    return None


def count_cycles(step):
    """How many cycles the dict has, as a permutation of its keys."""
    left = set(step)
    cycles = 0
    while left:
        cycles += 1
        at = min(left)
        while at in left:
            left.remove(at)
            at = step[at]
    return cycles


def faces(row):
    onward = {}
    for ui, uo, oi, oo, sign in fives(row):
        ends = [("in", ui), ("out", oo), ("out", uo), ("in", oi)]
        if sign == 1:
            ends = [("in", ui), ("in", oi), ("out", uo), ("out", oo)]
        for k in range(4):
            arrived, arc = ends[k]
            onward["out" if arrived == "in" else "in", arc] = ends[(k + 1) % 4]
    return count_cycles(onward)


def pieces(row):
    crossings = [set(five[:4]) for five in fives(row)]
    left = set(range(len(crossings)))
    found = 0
    while left:
        found += 1
        waiting = [left.pop()]
        while waiting:
            here = waiting.pop()
            near = [x for x in left if crossings[x] & crossings[here]]
            left.difference_update(near)
            waiting.extend(near)
    return found


def on_ball(row):
    return faces(row) == len(row) // 5 + 2 * pieces(row)


def put_answer(circles, row):
    """What put answers at a place that is there."""
    n = len(row) // 5
    if len(row) % 5 or n > 8 or circles > 4 or n + circles < 1:
        return [-1]
    if any(number > 1 if k % 5 == 4 else number >= 2 * n for k, number in enumerate(row)):
        return [-1]
    if loose_arc(row) is not None:
        return [-6, loose_arc(row)]
    return [0] if on_ball(row) else [-8]


def strands(row):
    """For each arc its strand."""
    onward = {}
    for ui, uo, oi, oo, sign in fives(row):
        onward[ui] = uo
        onward[oi] = oo
    strand = {}
    for arc in range(len(onward)):
        if arc not in strand:
            number = len(set(strand.values()))
            while arc not in strand:
                strand[arc] = number
                arc = onward[arc]
    return [strand[arc] for arc in range(len(onward))]


def circles_of(drawing, ways):
    """How many circles there are when crossing x is opened "along" or "across", as ways[x] says."""
    meet = {}
    for (ui, uo, oi, oo, sign), way in zip(fives(drawing[1]), ways):
        ends = [("in", ui), ("out", oo), ("in", oi), ("out", uo)]
        if way == "across":
            ends = [("in", ui), ("in", oi), ("out", uo), ("out", oo)]
        for one, other in (ends[:2], ends[2:]):
            meet[one] = other
            meet[other] = one
    # From an end one goes over to the end it meets and on to that arc's other end; each circle is so walked
    # in both ways round.
    flip = {"in": "out", "out": "in"}
    walked = count_cycles({end: (flip[meet[end][0]], meet[end][1]) for end in meet})
    return walked // 2 + drawing[0]


def state_ways(row, state):
    ways = []
    for x, five in enumerate(fives(row)):
        to_a = (state >> x) % 2 == 0
        ways.append("along" if to_a == (five[4] == 0) else "across")
    return ways


def bracket_at(drawing, a):
    """The bracket's value at the fraction a."""
    n = len(drawing[1]) // 5
    total = Fraction(0)
    for state in range(2 ** n):
        b = bin(state).count("1")
        z = circles_of(drawing, state_ways(drawing[1], state))
        total += a ** (n - b - b) * (-a ** 2 - a ** -2) ** (z - 1)
    return total


def signs(row):
    return sum(-1 if five[4] else 1 for five in fives(row))


def jones_at(drawing, a):
    return (-a ** 3) ** -signs(drawing[1]) * bracket_at(drawing, a)


def alexander_minor_at(row, t):
    """The determinant without the last row and the last column, at the fraction t."""
    matrix = []
    for ui, uo, oi, oo, sign in fives(row):
        first = [Fraction(0)] * (2 * len(row) // 5)
        second = list(first)
        first[oi] += 1
        first[oo] -= 1
        second[uo if sign else ui] += t
        second[ui if sign else uo] -= 1
        second[oi] += 1 - t
        matrix += [first, second]
    return fraction_determinant([line[:-1] for line in matrix[:-1]])


def fraction_determinant(matrix):
    matrix = [list(line) for line in matrix]
    value = Fraction(1)
    for k in range(len(matrix)):
        best = [r for r in range(k, len(matrix)) if matrix[r][k]]
        if not best:
            return Fraction(0)
        if best[0] != k:
            matrix[k], matrix[best[0]] = matrix[best[0]], matrix[k]
            value = -value
        value *= matrix[k][k]
        for r in range(k + 1, len(matrix)):
            factor = matrix[r][k] / matrix[k][k]
            matrix[r] = [x - factor * y for x, y in zip(matrix[r], matrix[k])]
    return value


def leibniz_determinant(matrix):
    """The determinant as the sum over all orders of the columns."""
    total = 0
    for order in permutations(range(len(matrix))):
        term = 1
        for k, column in enumerate(order):
            term *= matrix[k][column]
            term *= (-1) ** len([c for c in order[:k] if c > column])
        total += term
    return total


def count_colourings(drawing, p):
    """How many colourings there are, each tried."""
    arcs = 2 * len(drawing[1]) // 5
    found = 0
    for colours in product(range(p), repeat=arcs):
        found += all(
            colours[oo] == colours[oi] and (colours[ui] + colours[uo] - 2 * colours[oi]) % p == 0
            for ui, uo, oi, oo, sign in fives(drawing[1])
        )
    return found * p ** drawing[0]


def mirrored(drawing):
    own, row = drawing
    return own, [number for five in fives(row) for number in crossed_over(five)]


def crossed_over(five):
    """The crossing with the strand above below."""
    ui, uo, oi, oo, sign = five
    return oi, oo, ui, uo, 1 - sign


def turned(drawing):
    own, row = drawing
    return own, [number for ui, uo, oi, oo, sign in fives(row) for number in (uo, ui, oo, oi, sign)]


def flipped(drawing, crossing):
    own, row = drawing
    changed = list(row)
    changed[5 * crossing:5 * crossing + 5] = crossed_over(row[5 * crossing:5 * crossing + 5])
    return own, changed


def removed(drawing, gone, along):
    """The drawing without the crossings in gone: at each, from ui on to oo and from oi to uo if along, else
    straight on. Each arc that leaves a crossing that's left is walked until it comes to one that's left."""
    own, row = drawing
    onward = {}
    for x in gone:
        ui, uo, oi, oo, sign = fives(row)[x]
        onward[ui] = oo if along else uo
        onward[oi] = uo if along else oo
    left = [five for x, five in enumerate(fives(row)) if x not in gone]
    walks = []
    for ui, uo, oi, oo, sign in left:
        for arc in (uo, oo):
            walk = [arc]
            while walk[-1] in onward:
                walk.append(onward[walk[-1]])
            walks.append(walk)
    new = {arc: number for number, walk in enumerate(sorted(walks, key=min)) for arc in walk}
    closed = count_cycles({arc: onward[arc] for arc in range(2 * len(row) // 5) if arc not in new})
    return own + closed, [k for five in left for k in [new[arc] for arc in five[:4]] + [five[4]]]


def opened(drawing, crossing):
    return removed(drawing, [crossing], True)


def undone(drawing, gone):
    return removed(drawing, gone, False)


def kinks(drawing):
    return [x for x, (ui, uo, oi, oo, sign) in enumerate(fives(drawing[1])) if uo == oi or oo == ui]


def pokes(drawing):
    """The pairs of crossings that are pokes, in the order in which they're undone."""
    def leads(out, into):
        return {(x, y) for x, y in product(range(len(all_fives)), repeat=2) if all_fives[x][out] == all_fives[y][into]}

    all_fives = fives(drawing[1])
    below = leads(1, 0)
    above = leads(3, 2)
    return [
        (x, y) for x, y in product(range(len(all_fives)), repeat=2)
        if x < y and all_fives[x][4] + all_fives[y][4] == 1 and {(x, y), (y, x)} & above and {(x, y), (y, x)} & below
    ]


def plain(drawing):
    """What is left of the drawing undone as far as it goes, and all that was undone, one after another."""
    done = []
    while kinks(drawing) or pokes(drawing):
        gone = (kinks(drawing)[0],) if kinks(drawing) else pokes(drawing)[0]
        drawing = undone(drawing, gone)
        done.append(gone)
    return drawing, done


def beside(one, other):
    raised = 2 * len(one[1]) // 5
    row = list(one[1])
    for ui, uo, oi, oo, sign in fives(other[1]):
        row += [ui + raised, uo + raised, oi + raised, oo + raised, sign]
    return one[0] + other[0], row


def joined(one, i, other, j):
    circles, row = beside(one, other)
    j += 2 * len(one[1]) // 5
    heads = {row[k]: k for k in range(len(row)) if k % 5 in (0, 2)}
    row[heads[i]] = j
    row[heads[j]] = i
    return circles, row


def same(one, other):
    """Whether some way to match crossings with crossings and arcs with arcs makes them one: each is tried."""
    if one[0] != other[0] or len(one[1]) != len(other[1]):
        return False
    waiting = [([], {})]
    while waiting:
        matched, arcs = waiting.pop()
        if len(matched) == len(one[1]) // 5:
            return True
        mine = fives(one[1])[len(matched)]
        for x, theirs in enumerate(fives(other[1])):
            if x not in matched and mine[4] == theirs[4]:
                more = dict(arcs)
                fits = all(more.setdefault(a, b) == b for a, b in zip(mine[:4], theirs[:4]))
                if fits and len(set(more.values())) == len(more):
                    waiting.append((matched + [x], more))
    return False

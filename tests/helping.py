"""What the tests share: drawings, calls, and answers split call by call."""

from knotbookdesk.book import answers

LARGEST = 4294967295
PRIMES = [2, 3, 5, 7, 11, 13, 17, 19, 23, 29, 31, 37, 41, 43, 47, 53, 59, 61, 67, 71, 73, 79, 83, 89, 97]


def put(place, circles, row):
    return [1, place, circles, len(row)] + list(row)


def get(place):
    return [2, place]


def count(place, what):
    return [3, place, what]


def strand(place, arc):
    return [4, place, arc]


def sum_of(place, i, j):
    return [5, place, i, j]


def writhe(place):
    return [6, place]


def circles(place, state):
    return [7, place, state]


def bracket(place):
    return [8, place]


def jones(place):
    return [9, place]


def alexander(place):
    return [10, place]


def colours(place, p):
    return [11, place, p]


def mirror(d, k):
    return [12, d, k]


def turn(d, k):
    return [13, d, k]


def flip(d, k, crossing):
    return [14, d, k, crossing]


def open_at(d, k, crossing):
    return [15, d, k, crossing]


def unkink(d, k, crossing):
    return [16, d, k, crossing]


def unpoke(d, k, first, second):
    return [17, d, k, first, second]


def plain(d, k):
    return [18, d, k]


def put_beside(d, k, other):
    return [19, d, k, other]


def join(d, k, i, other, j):
    return [20, d, k, i, other, j]


def same(k, other):
    return [21, k, other]


def split(told):
    """The flat answers as a list for each call."""
    parts = []
    at = 0
    while at < len(told):
        parts.append(told[at + 1:at + 1 + told[at]])
        at += 1 + told[at]
    return parts


def ask(*calls):
    """The answers to these calls on one new book, a list for each."""
    line = []
    for call in calls:
        line.extend(call)
    parts = split(answers(line))
    if len(parts) != len(calls):
        raise AssertionError(f"{len(calls)} calls, {len(parts)} answers")
    return parts


def ask_of(drawing, *calls):
    """The answers to calls about place 0, which has the drawing (circles, row)."""
    told = ask(put(0, drawing[0], drawing[1]), *calls)
    if told[0] != [0]:
        raise AssertionError(f"not taken: {drawing} answers {told[0]}")
    return told[1:]


def told_as(drawing):
    """What get answers where the drawing is."""
    return [len(drawing[1]) // 5, drawing[0]] + list(drawing[1])


def made(call, *drawings):
    """What call answers, and the drawing it leaves at place 0 (None if none); the drawings are at 1, 2 and so on."""
    puts = [put(place, *drawing) for place, drawing in enumerate(drawings, start=1)]
    gets = [get(place) for place in range(6)]
    told = ask(*puts, call, *gets)
    held = told[len(puts) + 1:]
    kept = [told_as(drawing) for drawing in drawings]
    if told[:len(puts)] != [[0]] * len(puts) or held[1:] != kept + [[-1]] * (5 - len(kept)):
        raise AssertionError(f"not taken or not kept: {drawings} and {call}")
    return told[len(puts)], None if held[0] == [-1] else (held[0][1], held[0][2:])


def braid(width, word):
    """The drawing (circles, row) of a closed braid of width strands, all of them upwards.

    In the word k stands for a crossing without minus of the strands at k - 1 and k, -k for one with minus.
    """
    now = list(range(width))
    made = width
    crossings = []
    for letter in word:
        left = abs(letter) - 1
        ends = [made, made + 1]
        made += 2
        if letter > 0:
            crossings.append([now[left + 1], ends[0], now[left], ends[1], 0])
        else:
            crossings.append([now[left], ends[1], now[left + 1], ends[0], 1])
        now[left:left + 2] = ends
    closed = {end: start for start, end in enumerate(now)}
    crossings = [[closed.get(arc, arc) for arc in crossing[:4]] + crossing[4:] for crossing in crossings]
    used = sorted({arc for crossing in crossings for arc in crossing[:4]})
    row = []
    for crossing in crossings:
        row.extend([used.index(arc) for arc in crossing[:4]] + crossing[4:])
    return sum(1 for start, end in enumerate(now) if start == end), row


def beside(*drawings):
    """The drawings (circles, row) beside one another."""
    together = 0
    row = []
    for own_circles, own_row in drawings:
        raised = 2 * len(row) // 5
        together += own_circles
        row.extend([n if k % 5 == 4 else n + raised for k, n in enumerate(own_row)])
    return together, row


def renumbered(drawing, order, arcs):
    """The drawing with crossing order[x] as crossing x, and arc a called arcs[a]."""
    row = []
    for x in order:
        five = drawing[1][5 * x:5 * x + 5]
        row.extend([arcs[a] for a in five[:4]] + five[4:])
    return drawing[0], row


CIRCLE = (1, [])
KINK = (0, [0, 1, 1, 0, 0])
KINK_MINUS = (0, [0, 1, 1, 0, 1])
HOPF = (0, [0, 1, 2, 3, 0, 3, 2, 1, 0, 0])
HOPF_MINUS = (0, [0, 1, 2, 3, 1, 3, 2, 1, 0, 1])
TREFOIL = (0, [0, 1, 3, 4, 0, 4, 5, 1, 2, 0, 2, 3, 5, 0, 0])
TREFOIL_MINUS = (0, [3, 4, 0, 1, 1, 1, 2, 4, 5, 1, 5, 0, 2, 3, 1])
FIGURE_EIGHT = braid(3, [1, -2, 1, -2])

NAMED = {
    "circle": CIRCLE,
    "two circles": (2, []),
    "four circles": (4, []),
    "kink": KINK,
    "kink, minus": KINK_MINUS,
    "kink and circles": (3, KINK[1]),
    "two kinks": braid(3, [1, 2]),
    "kinks of either sign": braid(3, [1, -2]),
    "poke": braid(2, [1, -1]),
    "Hopf": HOPF,
    "Hopf, minus": HOPF_MINUS,
    "Hopf and circles": (4, HOPF[1]),
    "trefoil": TREFOIL,
    "trefoil, minus": TREFOIL_MINUS,
    "trefoil and circle": (1, TREFOIL[1]),
    "figure eight": FIGURE_EIGHT,
    "figure eight and circles": (2, FIGURE_EIGHT[1]),
    "4 crossings, 2 strands": braid(2, [1, 1, 1, 1]),
    "5_1": braid(2, [1, 1, 1, 1, 1]),
    "5_2": braid(3, [1, 1, 1, 2, -1, 2]),
    "Whitehead": braid(3, [1, -2, 1, -2, -2]),
    "Borromean": braid(3, [1, -2, 1, -2, 1, -2]),
    "7_1": braid(2, [-1] * 7),
    "8_18": braid(3, [1, -2, 1, -2, 1, -2, 1, -2]),
    "8_19": braid(3, [1, 2, 1, 2, 1, 2, 1, 2]),
    "8_20": braid(3, [1, 1, 1, -2, -1, -1, -1, -2]),
    "8 kinks": braid(9, [1, 2, -3, 4, -5, 6, 7, -8]),
    "8 crossings, 2 strands": braid(2, [1] * 8),
    "8 crossings and 4 circles": braid(6, [1] * 8),
    "8 crossings, 4 strands": braid(4, [1, 1, 2, -2, 3, 3, -1, 2]),
    "kink beside kink": beside(KINK, KINK_MINUS),
    "Hopf beside trefoil": beside(HOPF, TREFOIL_MINUS),
    "trefoils, kink and circle": beside(TREFOIL, KINK, TREFOIL_MINUS, CIRCLE),
    "8 kinks in 8 pieces": beside(*[KINK, KINK_MINUS] * 4),
    "chain of 3": braid(3, [1, 1, 2, 2]),
    "chain of 3, mixed": braid(3, [1, 1, -2, -2]),
}

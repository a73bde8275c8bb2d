"""The book of six places, and its answers to calls."""

from knotbookdesk.bracket import bracket, jones, numbers_told, writhe
from knotbookdesk.changing import flipped, mirrored, opened, turned
from knotbookdesk.colouring import alexander, count_free_colours
from knotbookdesk.drawing import (
    Drawing, count_arcs, count_circles_along, count_circles_opened, count_crossing_pieces, count_faces,
    count_strands, crossings_from, row_from, signed, strands_by_arc,
)
from knotbookdesk.judging import MOST_CIRCLES, MOST_CROSSINGS, fits_ball, loose_arcs, numbers_as_told
from knotbookdesk.pairing import beside, joined
from knotbookdesk.sameness import are_same
from knotbookdesk.undoing import is_kink, is_poke, undone, undone_by_steps

PLACES = 6
PUT = 1
SAME = 21
PRIMES_UP_TO = 100

NOT_AS_TOLD = -1
TOO_LARGE = -2
NOT_TO_UNDO = -3
LOOSE_ARC = -6
NOT_ON_BALL = -8

# How many whole numbers stand behind each call's number; behind those of put comes its row.
NUMBERS_BEHIND = {
    1: 2, 2: 1, 3: 2, 4: 2, 5: 3, 6: 1, 7: 2, 8: 1, 9: 1, 10: 1, 11: 2,
    12: 2, 13: 2, 14: 3, 15: 3, 16: 3, 17: 4, 18: 2, 19: 3, 20: 5, 21: 2,
}


def put_drawing(places, call):
    """Judge the drawing that is handed over, and put it at its place if nothing is wrong with it."""
    place = call[1]
    circles = call[2]
    row = call[4:]
    if place >= PLACES or not numbers_as_told(circles, row):
        return [NOT_AS_TOLD]
    drawing = Drawing(crossings_from(row), circles)
    loose = loose_arcs(drawing)
    if len(loose) > 0:
        return [LOOSE_ARC, loose[0]]
    if not fits_ball(drawing):
        return [NOT_ON_BALL]
    places[place] = drawing
    return [0]


def tell_drawing(drawing, numbers):
    """get: how many crossings, how many circles, and five numbers for each crossing."""
    return [len(drawing.crossings), drawing.circles] + row_from(drawing.crossings)


def tell_count(drawing, numbers):
    """count: how many there are of what is asked for."""
    what = numbers[0]
    if what == 0:
        return [len(drawing.crossings)]
    if what == 1:
        return [drawing.circles]
    if what == 2:
        return [count_strands(drawing)]
    if what == 3:
        return [count_crossing_pieces(drawing) + drawing.circles]
    if what == 4:
        return [count_faces(drawing)]
    if what == 5:
        return [count_circles_along(drawing)]
    return [NOT_AS_TOLD]


def tell_strand(drawing, numbers):
    """strand: the strand that the arc is of."""
    if numbers[0] >= count_arcs(drawing):
        return [NOT_AS_TOLD]
    return [strands_by_arc(drawing)[numbers[0]]]


def tell_sum(drawing, numbers):
    """sum: the signs where the strand crosses itself, or half of those where the two cross."""
    if max(numbers) >= count_strands(drawing):
        return [NOT_AS_TOLD]
    strands = strands_by_arc(drawing)
    total = 0
    for crossing in drawing.crossings:
        if sorted([strands[crossing.ui], strands[crossing.oi]]) == sorted(numbers):
            total += signed(crossing)
    # On a ball two strands cross an even number of times, so the half is whole.
    return [0, total if numbers[0] == numbers[1] else total // 2]


def tell_writhe(drawing, numbers):
    """writhe: the sum of all signs."""
    return [0, writhe(drawing)]


def tell_circles(drawing, numbers):
    """circles: how many there are in the state."""
    return [count_circles_opened(drawing, numbers[0])]


def tell_bracket(drawing, numbers):
    """bracket: its numbers, from the lowest power of A up."""
    return numbers_told(bracket(drawing))


def tell_jones(drawing, numbers):
    """jones: the numbers of Jones' polynomial, from the lowest power of A up."""
    return numbers_told(jones(drawing))


def tell_alexander(drawing, numbers):
    """alexander: the numbers of Alexander's polynomial from t^0 up."""
    told = alexander(drawing)
    return [len(told)] + told


def is_small_prime(number):
    """Whether the number is a prime up to 100."""
    if number < 2 or number > PRIMES_UP_TO:
        return False
    return all([number % part != 0 for part in range(2, number)])


def tell_colours(drawing, numbers):
    """colours: q, where the number of colourings is p^q."""
    if not is_small_prime(numbers[0]):
        return [NOT_AS_TOLD]
    return [count_free_colours(drawing, numbers[0])]


# The calls that ask something of one drawing and change nothing.
TELLERS = {
    2: tell_drawing, 3: tell_count, 4: tell_strand, 5: tell_sum, 6: tell_writhe, 7: tell_circles,
    8: tell_bracket, 9: tell_jones, 10: tell_alexander, 11: tell_colours,
}


def drawing_at(places, place):
    """The drawing at the place; None if there is none or no such place."""
    return places[place] if place < PLACES else None


def keep_made(places, place, drawing, answer):
    """Put the drawing, made of others, at the place, and answer so; refused if it is too large."""
    if len(drawing.crossings) > MOST_CROSSINGS or drawing.circles > MOST_CIRCLES:
        return [TOO_LARGE]
    places[place] = drawing
    return [answer]


def make_mirrored(places, place, drawing, numbers):
    """mirror: the place has the drawing mirrored."""
    return keep_made(places, place, mirrored(drawing), 0)


def make_turned(places, place, drawing, numbers):
    """turn: the place has the drawing turned."""
    return keep_made(places, place, turned(drawing), 0)


def make_flipped(places, place, drawing, numbers):
    """flip: the place has the drawing flipped at the crossing."""
    if numbers[0] >= len(drawing.crossings):
        return [NOT_AS_TOLD]
    return keep_made(places, place, flipped(drawing, numbers[0]), 0)


def make_opened(places, place, drawing, numbers):
    """open: the place has the drawing opened at the crossing."""
    if numbers[0] >= len(drawing.crossings):
        return [NOT_AS_TOLD]
    return keep_made(places, place, opened(drawing, numbers[0]), 0)


def make_unkinked(places, place, drawing, numbers):
    """unkink: the place has the drawing with the kink undone."""
    if numbers[0] >= len(drawing.crossings):
        return [NOT_AS_TOLD]
    if not is_kink(drawing.crossings[numbers[0]]):
        return [NOT_TO_UNDO]
    return keep_made(places, place, undone(drawing, numbers), 0)


def make_unpoked(places, place, drawing, numbers):
    """unpoke: the place has the drawing with the poke undone."""
    if max(numbers) >= len(drawing.crossings):
        return [NOT_AS_TOLD]
    if not is_poke(drawing.crossings[numbers[0]], drawing.crossings[numbers[1]]):
        return [NOT_TO_UNDO]
    return keep_made(places, place, undone(drawing, numbers), 0)


def make_plain(places, place, drawing, numbers):
    """plain: the place has the drawing undone as far as it goes; answers in how many steps."""
    steps = undone_by_steps(drawing)
    return keep_made(places, place, steps[-1], len(steps) - 1)


def make_beside(places, place, drawing, numbers):
    """beside: the place has the two drawings beside one another."""
    other = drawing_at(places, numbers[0])
    if other is None:
        return [NOT_AS_TOLD]
    return keep_made(places, place, beside(drawing, other), 0)


def make_joined(places, place, drawing, numbers):
    """join: the place has the two drawings joined by their arcs."""
    other = drawing_at(places, numbers[1])
    if other is None or numbers[0] >= count_arcs(drawing) or numbers[2] >= count_arcs(other):
        return [NOT_AS_TOLD]
    return keep_made(places, place, joined(drawing, numbers[0], other, numbers[2]), 0)


# The calls that make a drawing, of that at one place or at two, for the place that is named first.
MAKERS = {
    12: make_mirrored, 13: make_turned, 14: make_flipped, 15: make_opened, 16: make_unkinked, 17: make_unpoked,
    18: make_plain, 19: make_beside, 20: make_joined,
}


def answer_maker(places, call):
    """What a call that makes a drawing answers: first its places are judged, then the numbers behind."""
    drawing = drawing_at(places, call[2])
    if call[1] >= PLACES or drawing is None:
        return [NOT_AS_TOLD]
    maker = MAKERS[call[0]]
    return maker(places, call[1], drawing, call[3:])


def answer_same(places, call):
    """same: 1 if the drawings are the same, else 0."""
    one = drawing_at(places, call[1])
    other = drawing_at(places, call[2])
    if one is None or other is None:
        return [NOT_AS_TOLD]
    return [1 if are_same(one, other) else 0]


def answer_teller(places, call):
    """What a call that asks something of one drawing answers."""
    drawing = drawing_at(places, call[1])
    if drawing is None:
        return [NOT_AS_TOLD]
    teller = TELLERS[call[0]]
    return teller(drawing, call[2:])


def answer_call(places, call):
    """The numbers that are answered to one call."""
    if call[0] == PUT:
        return put_drawing(places, call)
    if call[0] == SAME:
        return answer_same(places, call)
    if call[0] in MAKERS:
        return answer_maker(places, call)
    return answer_teller(places, call)


def call_end(calls, at):
    """Where the call that begins at at is over."""
    end = at + 1 + NUMBERS_BEHIND[calls[at]]
    return end + 1 + calls[end] if calls[at] == PUT else end


def answers(calls):
    """For each call, in order, how many numbers are answered, and these; the places are empty at first."""
    places = [None] * PLACES
    told = []
    at = 0
    while at < len(calls):
        end = call_end(calls, at)
        answer = answer_call(places, calls[at:end])
        told.append(len(answer))
        told.extend(answer)
        at = end
    return told

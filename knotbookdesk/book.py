"""The book of six places, and its answers to calls."""

from knotbookdesk.bracket import bracket, jones, numbers_told, writhe
from knotbookdesk.colouring import alexander, count_free_colours
from knotbookdesk.drawing import (
    Drawing, count_arcs, count_circles_along, count_circles_opened, count_crossing_pieces, count_faces,
    count_strands, crossings_from, row_from, signed, strands_by_arc,
)
from knotbookdesk.judging import fits_ball, loose_arcs, numbers_as_told

PLACES = 6
PUT = 1
PRIMES_UP_TO = 100

NOT_AS_TOLD = -1
LOOSE_ARC = -6
NOT_ON_BALL = -8

# How many whole numbers stand behind each call's number; behind those of put comes its row.
NUMBERS_BEHIND = {1: 2, 2: 1, 3: 2, 4: 2, 5: 3, 6: 1, 7: 2, 8: 1, 9: 1, 10: 1, 11: 2}


def put_drawing(places, call):
    """Judge the drawing that is handed over, and put it at its place if nothing is wrong with it."""
    place = call[1]
    circles = call[2]
    row = call[4:]
    if place >= PLACES or not numbers_as_told(circles, row):
        return [NOT_AS_TOLD]
    drawing = Drawing(crossings_from(row), circles)
    loose = loose_arcs(drawing)
    if len(loose) > 0:
        return [LOOSE_ARC, loose[0]]
    if not fits_ball(drawing):
        return [NOT_ON_BALL]
    places[place] = drawing
    return [0]


def tell_drawing(drawing, numbers):
    """get: how many crossings, how many circles, and five numbers for each crossing."""
    return [len(drawing.crossings), drawing.circles] + row_from(drawing.crossings)


def tell_count(drawing, numbers):
    """count: how many there are of what is asked for."""
    what = numbers[0]
    if what == 0:
        return [len(drawing.crossings)]
    if what == 1:
        return [drawing.circles]
    if what == 2:
        return [count_strands(drawing)]
    if what == 3:
        return [count_crossing_pieces(drawing) + drawing.circles]
    if what == 4:
        return [count_faces(drawing)]
    if what == 5:
        return [count_circles_along(drawing)]
    return [NOT_AS_TOLD]


def tell_strand(drawing, numbers):
    """strand: the strand that the arc is of."""
    if numbers[0] >= count_arcs(drawing):
        return [NOT_AS_TOLD]
    return [strands_by_arc(drawing)[numbers[0]]]


def tell_sum(drawing, numbers):
    """sum: the signs where the strand crosses itself, or half of those where the two cross."""
    if max(numbers) >= count_strands(drawing):
        return [NOT_AS_TOLD]
    strands = strands_by_arc(drawing)
    total = 0
    for crossing in drawing.crossings:
        if sorted([strands[crossing.ui], strands[crossing.oi]]) == sorted(numbers):
            total += signed(crossing)
    # On a ball two strands cross an even number of times, so the half is whole.
    return [0, total if numbers[0] == numbers[1] else total // 2]


def tell_writhe(drawing, numbers):
    """writhe: the sum of all signs."""
    return [0, writhe(drawing)]


def tell_circles(drawing, numbers):
    """circles: how many there are in the state."""
    return [count_circles_opened(drawing, numbers[0])]


def tell_bracket(drawing, numbers):
    """bracket: its numbers, from the lowest power of A up."""
    return numbers_told(bracket(drawing))


def tell_jones(drawing, numbers):
    """jones: the numbers of Jones' polynomial, from the lowest power of A up."""
    return numbers_told(jones(drawing))


def tell_alexander(drawing, numbers):
    """alexander: the numbers of Alexander's polynomial from t^0 up."""
    told = alexander(drawing)
    return [len(told)] + told


def is_small_prime(number):
    """Whether the number is a prime up to 100."""
    if number < 2 or number > PRIMES_UP_TO:
        return False
    return all([number % part != 0 for part in range(2, number)])


def tell_colours(drawing, numbers):
    """colours: q, where the number of colourings is p^q."""
    if not is_small_prime(numbers[0]):
        return [NOT_AS_TOLD]
    return [count_free_colours(drawing, numbers[0])]


# The calls that ask something of one drawing and change nothing.
TELLERS = {
    2: tell_drawing, 3: tell_count, 4: tell_strand, 5: tell_sum, 6: tell_writhe, 7: tell_circles,
    8: tell_bracket, 9: tell_jones, 10: tell_alexander, 11: tell_colours,
}


def drawing_at(places, place):
    """The drawing at the place; None if there is none or no such place."""
    return places[place] if place < PLACES else None


def answer_call(places, call):
    """The numbers that are answered to one call."""
    if call[0] == PUT:
        return put_drawing(places, call)
    drawing = drawing_at(places, call[1])
    if drawing is None:
        return [NOT_AS_TOLD]
    teller = TELLERS[call[0]]
    return teller(drawing, call[2:])


def call_end(calls, at):
    """Where the call that begins at at is over."""
    end = at + 1 + NUMBERS_BEHIND[calls[at]]
    return end + 1 + calls[end] if calls[at] == PUT else end


def answers(calls):
    """For each call, in order, how many numbers are answered, and these; the places are empty at first."""
    places = [None] * PLACES
    told = []
    at = 0
    while at < len(calls):
        end = call_end(calls, at)
        answer = answer_call(places, calls[at:end])
        told.append(len(answer))
        told.extend(answer)
        at = end
    return told

"""Alexander's polynomial and colourings: both come of the same rows, two for each crossing."""

from knotbookdesk.drawing import count_arcs
from knotbookdesk.matrices import determinant, rank_by

# In a determinant no number before a power of t is above the product, over all rows, of the sizes of what
# stands before powers of t in a row: at most 2 and 4 for each of 8 crossings, 2 ** 24 together. So with this
# as t the numbers stand apart in the determinant like digits, and each digit is below half of it.
APART = 4294967296


def crossing_rows(drawing, t):
    """Alexander's rows, a column for each arc, with the whole number t put in for t."""
    rows = []
    for crossing in drawing.crossings:
        above = [0] * count_arcs(drawing)
        above[crossing.oi] += 1
        above[crossing.oo] -= 1
        below = [0] * count_arcs(drawing)
        below[crossing.ui] += -1 if crossing.sign == 1 else t
        below[crossing.uo] += t if crossing.sign == 1 else -1
        below[crossing.oi] += 1 - t
        rows.extend([above, below])
    return rows


def digits_apart(value):
    """The numbers before t^0, t^1 and so on of a polynomial whose value at APART this is."""
    numbers = []
    left = value
    while left != 0:
        digit = left % APART
        if 2 * digit > APART:
            digit -= APART
        numbers.append(digit)
        left = (left - digit) // APART
    return numbers


def lowest_first(numbers):
    """The polynomial times what brings a lowest term above 0 to t^0; it isn't 0."""
    lowest = min([power for power, number in enumerate(numbers) if number != 0])
    sign = 1 if numbers[lowest] > 0 else -1
    return [sign * number for number in numbers[lowest:]]


def alexander(drawing):
    """The numbers of Alexander's polynomial from t^0 up; none if it is 0."""
    if len(drawing.crossings) == 0:
        return [1] if drawing.circles == 1 else []
    if drawing.circles > 0:
        return []
    rows = crossing_rows(drawing, APART)
    value = determinant([row[:-1] for row in rows[:-1]])
    return lowest_first(digits_apart(value)) if value != 0 else []


def count_free_colours(drawing, prime):
    """q, where the number of colourings by prime is prime to the power q."""
    # With -1 for t both kinds of rows ask what a colouring asks: oi - oo and 2 oi - ui - uo are to be 0.
    rows = crossing_rows(drawing, -1)
    return count_arcs(drawing) - rank_by(rows, count_arcs(drawing), prime) + drawing.circles

"""Determinants and ranks of rows of whole numbers, without a fraction."""


def reduced(row, top, before):
    """The row without its first entry, once top has cleared that entry."""
    return [(number * top[0] - row[0] * above) // before for number, above in zip(row[1:], top[1:])]


def determinant(rows):
    """The determinant of one or more rows that are as long as there are rows."""
    left = list(rows)
    sign = 1
    before = 1
    while len(left) > 1:
        leading = [number for number, row in enumerate(left) if row[0] != 0]
        if len(leading) == 0:
            return 0
        top = left.pop(leading[0])
        # A row that goes to the top passes all rows above it, and each that it passes changes the sign.
        if leading[0] % 2 == 1:
            sign = -sign
        # Divided by the leading entry before, all entries are determinants of parts: so it goes without rest.
        left = [reduced(row, top, before) for row in left]
        before = top[0]
    return sign * left[0][0]


def cleared(row, top, column, prime):
    """The row with 0 in the column, once top has cleared it, up to multiples of prime."""
    return [(number * top[column] - row[column] * above) % prime for number, above in zip(row, top)]


def rank_by(rows, width, prime):
    """The rank, up to multiples of prime, of rows that are width long."""
    rank = 0
    left = rows
    for column in range(width):
        leading = [row for row in left if row[column] % prime != 0]
        left = [row for row in left if row[column] % prime == 0]
        if len(leading) > 0:
            rank += 1
            left.extend([cleared(row, leading[0], column, prime) for row in leading[1:]])
    return rank

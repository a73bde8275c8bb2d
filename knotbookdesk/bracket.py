"""The bracket and Jones' polynomial: dicts from powers of A to the numbers before them."""

from knotbookdesk.drawing import count_circles_opened, signed


def multiplied(one, other):
    """The product of two polynomials."""
    product = {}
    for power, number in one.items():
        for more, factor in other.items():
            product[power + more] = product.get(power + more, 0) + number * factor
    return product


def circle_value(circles):
    """(-A^2 - A^-2)^(circles - 1)."""
    value = {0: 1}
    for step in range(circles - 1):
        value = multiplied(value, {2: -1, -2: -1})
    return value


def count_ones(state, bits):
    """How many of the lowest bits of state are 1."""
    return sum([(state >> bit) & 1 for bit in range(bits)])


def count_ways(drawing):
    """For each power a - b and number of circles that opening every crossing gives, how many ways give it."""
    size = len(drawing.crossings)
    ways = {}
    for state in range(1 << size):
        power = size - 2 * count_ones(state, size)
        circles = count_circles_opened(drawing, state)
        ways[(power, circles)] = ways.get((power, circles), 0) + 1
    return ways


def bracket(drawing):
    """The bracket of the drawing."""
    total = {}
    for way, number in count_ways(drawing).items():
        part = multiplied({way[0]: number}, circle_value(way[1]))
        for power, more in part.items():
            total[power] = total.get(power, 0) + more
    return total


def writhe(drawing):
    """The sum of all signs."""
    return sum([signed(crossing) for crossing in drawing.crossings])


def jones(drawing):
    """Jones' polynomial of the drawing."""
    total = writhe(drawing)
    return multiplied(bracket(drawing), {-3 * total: 1 if total % 2 == 0 else -1})


def numbers_told(polynomial):
    """How many numbers there are from the lowest power to the highest, that lowest power, and they."""
    powers = [power for power, number in polynomial.items() if number != 0]
    numbers = [polynomial.get(power, 0) for power in range(min(powers), max(powers) + 1)]
    return [len(numbers), min(powers)] + numbers

"""beside, join."""

import unittest
from itertools import product
from random import Random

from tests import oracle
from tests.growing import many, size
from tests.helping import (
    CIRCLE, FIGURE_EIGHT, HOPF, HOPF_MINUS, KINK, KINK_MINUS, LARGEST, NAMED, TREFOIL, TREFOIL_MINUS,
    ask, beside, braid, get, join, made, put, put_beside, told_as,
)

ORDINARY = [
    CIRCLE, (2, []), KINK, KINK_MINUS, HOPF, HOPF_MINUS, TREFOIL, TREFOIL_MINUS, FIGURE_EIGHT, (1, TREFOIL[1]),
    (2, HOPF[1]), beside(HOPF, KINK), NAMED["poke"],
]


def chain(n, circles):
    """A drawing of n crossings that stand in a ring, and circles."""
    return circles, braid(2, [1] * n)[1]


class Beside(unittest.TestCase):
    def test_known_ones(self):
        for one, other, expected in (
            (CIRCLE, CIRCLE, (2, [])),
            (CIRCLE, (3, []), (4, [])),
            (KINK, CIRCLE, (1, [0, 1, 1, 0, 0])),
            (CIRCLE, KINK, (1, [0, 1, 1, 0, 0])),
            (KINK, KINK_MINUS, (0, [0, 1, 1, 0, 0, 2, 3, 3, 2, 1])),
            (KINK_MINUS, KINK, (0, [0, 1, 1, 0, 1, 2, 3, 3, 2, 0])),
            (HOPF, (2, KINK[1]), (2, [0, 1, 2, 3, 0, 3, 2, 1, 0, 0, 4, 5, 5, 4, 0])),
            ((1, KINK[1]), (2, HOPF[1]), (3, [0, 1, 1, 0, 0, 2, 3, 4, 5, 0, 5, 4, 3, 2, 0])),
        ):
            self.assertEqual(made(put_beside(0, 1, 2), one, other), ([0], expected))

    def test_by_the_words(self):
        for one, other in product(ORDINARY, repeat=2):
            self.assertEqual(made(put_beside(0, 1, 2), one, other), ([0], oracle.beside(one, other)))

    def test_with_itself(self):
        for drawing in ORDINARY:
            self.assertEqual(made(put_beside(0, 1, 1), drawing), ([0], oracle.beside(drawing, drawing)))

    def test_what_comes_of_it_can_be_drawn(self):
        for one, other in product(ORDINARY, repeat=2):
            self.assertEqual(ask(put(0, *made(put_beside(0, 1, 2), one, other)[1])), [[0]])

    def test_up_to_eight_crossings(self):
        for n, m in product(range(9), repeat=2):
            one = chain(n, 0 if n else 1)
            other = chain(m, 0 if m else 1)
            answer, drawing = made(put_beside(0, 1, 2), one, other)
            self.assertEqual((answer, drawing is None), ([0], False) if n + m <= 8 else ([-2], True), (n, m))

    def test_up_to_four_circles(self):
        for rows in (([], []), ([], KINK[1]), (HOPF[1], TREFOIL[1]), (braid(2, [1] * 4)[1], FIGURE_EIGHT[1])):
            for c, e in product(range(5), repeat=2):
                if (c or rows[0]) and (e or rows[1]):
                    answer, drawing = made(put_beside(0, 1, 2), (c, rows[0]), (e, rows[1]))
                    self.assertEqual(answer, [0] if c + e <= 4 else [-2])
                    self.assertEqual(drawing, (c + e, beside((0, rows[0]), (0, rows[1]))[1]) if c + e <= 4 else None)

    def test_too_many_of_both(self):
        self.assertEqual(made(put_beside(0, 1, 2), chain(8, 4), chain(8, 4)), ([-2], None))
        self.assertEqual(made(put_beside(0, 1, 2), chain(8, 4), CIRCLE), ([-2], None))
        self.assertEqual(made(put_beside(0, 1, 2), KINK, chain(8, 4)), ([-2], None))
        self.assertEqual(made(put_beside(0, 1, 2), chain(8, 3), CIRCLE), ([0], chain(8, 4)))


class Joined(unittest.TestCase):
    def test_known_ones(self):
        for one, i, other, j, expected in (
            # What came in by i comes in by j's new number, and the other way round.
            (KINK, 0, KINK, 0, (0, [2, 1, 1, 0, 0, 0, 3, 3, 2, 0])),
            (KINK, 0, KINK, 1, (0, [3, 1, 1, 0, 0, 2, 3, 0, 2, 0])),
            (KINK, 1, KINK_MINUS, 0, (0, [0, 1, 2, 0, 0, 1, 3, 3, 2, 1])),
            (KINK, 1, KINK_MINUS, 1, (0, [0, 1, 3, 0, 0, 2, 3, 1, 2, 1])),
            ((1, HOPF[1]), 3, (2, KINK[1]), 0, (3, [0, 1, 2, 3, 0, 4, 2, 1, 0, 0, 3, 5, 5, 4, 0])),
            (KINK, 0, TREFOIL, 5, (0, [7, 1, 1, 0, 0, 2, 3, 5, 6, 0, 6, 7, 3, 4, 0, 4, 5, 0, 2, 0])),
        ):
            self.assertEqual(made(join(0, 1, i, 2, j), one, other), ([0], expected))

    def test_by_the_words(self):
        for one, other in product(ORDINARY, repeat=2):
            for i, j in product(range(2 * size(one)), range(2 * size(other))):
                self.assertEqual(made(join(0, 1, i, 2, j), one, other), ([0], oracle.joined(one, i, other, j)))

    def test_with_itself(self):
        for drawing in ORDINARY:
            for i, j in product(range(2 * size(drawing)), repeat=2):
                self.assertEqual(made(join(0, 1, i, 1, j), drawing), ([0], oracle.joined(drawing, i, drawing, j)))

    def test_what_comes_of_it_can_be_drawn(self):
        for one, other in product(ORDINARY, repeat=2):
            for i, j in product(range(2 * size(one)), range(2 * size(other))):
                self.assertEqual(ask(put(0, *made(join(0, 1, i, 2, j), one, other)[1])), [[0]])

    def test_arcs_that_are_not_there(self):
        for one, other in product(ORDINARY, repeat=2):
            for i in (2 * size(one), 2 * size(one) + 1, LARGEST):
                self.assertEqual(made(join(0, 1, i, 2, 0), one, other), ([-1], None))
            for j in (2 * size(other), 2 * size(other) + 1, LARGEST):
                self.assertEqual(made(join(0, 1, 0, 2, j), one, other), ([-1], None))

    def test_circles_have_no_arcs(self):
        told = made(join(0, 1, 0, 2, 0), CIRCLE, TREFOIL), made(join(0, 1, 0, 2, 0), TREFOIL, CIRCLE)
        self.assertEqual(told, (([-1], None), ([-1], None)))

    def test_up_to_eight_crossings(self):
        for n, m in product(range(1, 9), repeat=2):
            answer, drawing = made(join(0, 1, 2 * n - 1, 2, 2 * m - 1), chain(n, 0), chain(m, 0))
            self.assertEqual((answer, drawing is None), ([0], False) if n + m <= 8 else ([-2], True), (n, m))

    def test_up_to_four_circles(self):
        for one, other in ((KINK[1], KINK[1]), (HOPF[1], TREFOIL[1]), (FIGURE_EIGHT[1], braid(2, [-1] * 4)[1])):
            for c, e in product(range(5), repeat=2):
                answer, drawing = made(join(0, 1, 1, 2, 0), (c, one), (e, other))
                expected = oracle.joined((c, one), 1, (e, other), 0)
                self.assertEqual((answer, drawing), ([0], expected) if c + e <= 4 else ([-2], None))

    def test_larger_ones(self):
        lot = Random(41)
        drawings = [drawing for drawing in many(lot, 300) if drawing[1]]
        for one, other in zip(drawings[::2], drawings[1::2]):
            i = lot.randrange(2 * size(one))
            j = lot.randrange(2 * size(other))
            expected = oracle.joined(one, i, other, j)
            fits = size(expected) <= 8 and expected[0] <= 4
            self.assertEqual(made(join(0, 1, i, 2, j), one, other), ([0], expected) if fits else ([-2], None))

    def test_one_after_another(self):
        # Eight kinks in one strand, each joined to those before.
        told = ask(put(0, *KINK), put(1, *KINK), *[join(1, 1, k, 0, 1) for k in range(8)], get(1))
        self.assertEqual(told[2:10], [[0]] * 7 + [[-2]])
        drawing = KINK
        for k in range(7):
            drawing = oracle.joined(drawing, k, KINK, 1)
        self.assertEqual(told[10], told_as(drawing))


if __name__ == "__main__":
    unittest.main()

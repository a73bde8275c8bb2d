"""mirror, turn, flip, open."""

import unittest
from itertools import permutations
from random import Random

from tests import oracle
from tests.growing import all_drawings, many, size, with_kink
from tests.helping import (
    CIRCLE, FIGURE_EIGHT, HOPF, HOPF_MINUS, KINK, KINK_MINUS, NAMED, TREFOIL, TREFOIL_MINUS,
    ask, beside, flip, get, made, mirror, open_at, put, renumbered, turn,
)

DRAWINGS = list(NAMED.values()) + all_drawings(1) + all_drawings(2) + many(Random(21), 150)


class Mirrored(unittest.TestCase):
    def test_known_ones(self):
        for drawing, expected in (
            (CIRCLE, CIRCLE),
            ((4, []), (4, [])),
            (KINK, (0, [1, 0, 0, 1, 1])),
            ((0, [1, 0, 0, 1, 1]), KINK),
            ((3, KINK_MINUS[1]), (3, [1, 0, 0, 1, 0])),
            (HOPF, (0, [2, 3, 0, 1, 1, 1, 0, 3, 2, 1])),
            (HOPF_MINUS, (0, [2, 3, 0, 1, 0, 1, 0, 3, 2, 0])),
            (TREFOIL, TREFOIL_MINUS),
            (TREFOIL_MINUS, TREFOIL),
            (beside(KINK, CIRCLE, HOPF), (1, [1, 0, 0, 1, 1, 4, 5, 2, 3, 1, 3, 2, 5, 4, 1])),
        ):
            self.assertEqual(made(mirror(0, 1), drawing), ([0], expected))

    def test_by_the_words(self):
        for drawing in DRAWINGS:
            self.assertEqual(made(mirror(0, 1), drawing), ([0], oracle.mirrored(drawing)))

    def test_twice_is_as_before(self):
        for drawing in DRAWINGS:
            told = ask(put(0, *drawing), get(0), mirror(0, 0), mirror(0, 0), get(0))
            self.assertEqual(told[1], told[4])


class Turned(unittest.TestCase):
    def test_known_ones(self):
        for drawing, expected in (
            (CIRCLE, CIRCLE),
            (KINK, (0, [1, 0, 0, 1, 0])),
            ((2, KINK_MINUS[1]), (2, [1, 0, 0, 1, 1])),
            (HOPF, (0, [1, 0, 3, 2, 0, 2, 3, 0, 1, 0])),
            (HOPF_MINUS, (0, [1, 0, 3, 2, 1, 2, 3, 0, 1, 1])),
            (TREFOIL, (0, [1, 0, 4, 3, 0, 5, 4, 2, 1, 0, 3, 2, 0, 5, 0])),
            (TREFOIL_MINUS, (0, [4, 3, 1, 0, 1, 2, 1, 5, 4, 1, 0, 5, 3, 2, 1])),
        ):
            self.assertEqual(made(turn(0, 1), drawing), ([0], expected))

    def test_by_the_words(self):
        for drawing in DRAWINGS:
            self.assertEqual(made(turn(0, 1), drawing), ([0], oracle.turned(drawing)))

    def test_twice_is_as_before(self):
        for drawing in DRAWINGS:
            told = ask(put(0, *drawing), get(0), turn(0, 0), turn(0, 0), get(0))
            self.assertEqual(told[1], told[4])


class Flipped(unittest.TestCase):
    def test_known_ones(self):
        for drawing, crossing, row in (
            (KINK, 0, [1, 0, 0, 1, 1]),
            (KINK_MINUS, 0, [1, 0, 0, 1, 0]),
            (HOPF, 0, [2, 3, 0, 1, 1, 3, 2, 1, 0, 0]),
            (HOPF, 1, [0, 1, 2, 3, 0, 1, 0, 3, 2, 1]),
            (TREFOIL, 1, [0, 1, 3, 4, 0, 1, 2, 4, 5, 1, 2, 3, 5, 0, 0]),
            (TREFOIL_MINUS, 2, [3, 4, 0, 1, 1, 1, 2, 4, 5, 1, 2, 3, 5, 0, 0]),
            ((4, KINK[1]), 0, [1, 0, 0, 1, 1]),
        ):
            self.assertEqual(made(flip(0, 1, crossing), drawing), ([0], (drawing[0], row)))

    def test_by_the_words(self):
        for drawing in DRAWINGS:
            for x in range(size(drawing)):
                self.assertEqual(made(flip(0, 1, x), drawing), ([0], oracle.flipped(drawing, x)))

    def test_what_comes_of_it_can_be_drawn(self):
        for drawing in DRAWINGS:
            for x in range(size(drawing)):
                self.assertEqual(ask(put(0, *made(flip(0, 1, x), drawing)[1])), [[0]])

    def test_all_crossings_flipped_is_mirrored(self):
        for drawing in DRAWINGS:
            flips = [flip(2, 2, x) for x in range(size(drawing))]
            told = ask(put(2, *drawing), mirror(1, 2), *flips, get(1), get(2))
            self.assertEqual(told[-2], told[-1])


class Opened(unittest.TestCase):
    def test_known_ones(self):
        for drawing, crossing, expected in (
            (HOPF, 0, (0, [0, 1, 1, 0, 0])),
            (HOPF, 1, (0, [0, 1, 1, 0, 0])),
            (HOPF_MINUS, 0, (0, [0, 1, 1, 0, 1])),
            (TREFOIL, 0, (0, [0, 3, 1, 2, 0, 2, 1, 3, 0, 0])),
            (TREFOIL, 1, (0, [0, 1, 3, 2, 0, 2, 3, 1, 0, 0])),
            (TREFOIL, 2, (0, [0, 1, 2, 3, 0, 3, 2, 1, 0, 0])),
            (TREFOIL_MINUS, 0, (0, [1, 2, 0, 3, 1, 3, 0, 2, 1, 1])),
            (beside(KINK, TREFOIL), 0, (2, TREFOIL[1])),
            (beside(TREFOIL, KINK_MINUS), 3, (2, TREFOIL[1])),
        ):
            self.assertEqual(made(open_at(0, 1, crossing), drawing), ([0], expected), (drawing, crossing))

    def test_down_to_no_crossing(self):
        for row in ([0, 1, 1, 0, 0], [0, 1, 1, 0, 1], [1, 0, 0, 1, 0], [1, 0, 0, 1, 1]):
            for own in range(3):
                self.assertEqual(made(open_at(0, 1, 0), (own, row)), ([0], (own + 2, [])))
            for own in (3, 4):
                self.assertEqual(made(open_at(0, 1, 0), (own, row)), ([-2], None))

    def test_all_crossings_one_after_another(self):
        for drawing in DRAWINGS:
            n = size(drawing)
            circles = oracle.circles_of(drawing, ["along"] * n)
            told = ask(put(3, *drawing), *[open_at(3, 3, 0) for x in range(n)], get(3))
            if circles <= 4:
                self.assertEqual(told, [[0]] * (n + 1) + [[0, circles]])
            else:
                self.assertEqual(told[-2], [-2])

    def test_kinks_of_all_four_kinds(self):
        for drawing in (TREFOIL, HOPF_MINUS, FIGURE_EIGHT, (2, KINK[1])):
            for arc in range(2 * size(drawing)):
                for below_first in (True, False):
                    for sign in range(2):
                        kinked = with_kink(drawing, arc, below_first, sign)
                        expected = drawing[0] + 1, drawing[1]
                        self.assertEqual(made(open_at(0, 1, size(drawing)), kinked), ([0], expected))

    def test_by_the_words(self):
        for drawing in DRAWINGS:
            for x in range(size(drawing)):
                expected = oracle.opened(drawing, x)
                answer = ([0], expected) if expected[0] <= 4 else ([-2], None)
                self.assertEqual(made(open_at(0, 1, x), drawing), answer, (drawing, x))

    def test_what_comes_of_it_can_be_drawn(self):
        for drawing in DRAWINGS:
            for x in range(size(drawing)):
                answer, opened = made(open_at(0, 1, x), drawing)
                if answer == [0]:
                    self.assertEqual(ask(put(0, *opened)), [[0]])

    def test_arcs_numbered_in_every_order(self):
        for drawing in (HOPF, NAMED["two kinks"], NAMED["poke"], beside(KINK, KINK_MINUS), TREFOIL, NAMED["5_2"]):
            n = size(drawing)
            orders = list(permutations(range(2 * n))) if n < 4 else [Random(k).sample(range(2 * n), 2 * n) for k in range(60)]
            for arcs in orders:
                numbered = renumbered(drawing, range(n), arcs)
                for x in range(n):
                    expected = oracle.opened(numbered, x)
                    self.assertEqual(made(open_at(0, 1, x), numbered), ([0], expected))

    def test_crossings_that_are_left_keep_their_order(self):
        signs = [0, 1, 1, 0, 1, 0, 0, 1]
        drawing = beside(*[(0, [0, 1, 1, 0, sign]) for sign in signs])
        for x in range(8):
            answer, opened = made(open_at(0, 1, x), drawing)
            self.assertEqual(opened[1][4::5], signs[:x] + signs[x + 1:])
            self.assertEqual(opened, (2, beside(*[(0, [0, 1, 1, 0, sign]) for sign in opened[1][4::5]])[1]))


if __name__ == "__main__":
    unittest.main()

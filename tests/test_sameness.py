"""same."""

import unittest
from itertools import permutations, product
from random import Random

from tests import oracle
from tests.growing import all_drawings, many, mixed, size, strand_turned
from tests.helping import (
    CIRCLE, FIGURE_EIGHT, HOPF, HOPF_MINUS, KINK, KINK_MINUS, LARGEST, NAMED, TREFOIL, TREFOIL_MINUS,
    ask, beside, braid, flip, mirror, put, renumbered, same, turn,
)


def are_same(one, other):
    """What same answers, asked both ways."""
    told = ask(put(1, *one), put(4, *other), same(1, 4), same(4, 1))
    if told[:2] != [[0], [0]] or told[2] != told[3]:
        raise AssertionError(f"{one} and {other}: {told}")
    return told[2][0]


class Same(unittest.TestCase):
    def test_itself(self):
        for drawing in NAMED.values():
            self.assertEqual(ask(put(3, *drawing), same(3, 3)), [[0], [1]])

    def test_whatever_the_numbers_are(self):
        lot = Random(51)
        for drawing in list(NAMED.values()) + many(lot, 200):
            for time in range(3):
                self.assertEqual(are_same(drawing, mixed(drawing, lot)), 1, drawing)

    def test_every_order_of_a_trefoil(self):
        for order in permutations(range(3)):
            for arcs in list(permutations(range(6)))[::7]:
                numbered = renumbered(TREFOIL, order, arcs)
                self.assertEqual(are_same(TREFOIL, numbered), 1)
                self.assertEqual(are_same(TREFOIL_MINUS, numbered), 0)

    def test_known_ones(self):
        for one, other, expected in (
            (CIRCLE, CIRCLE, 1),
            (CIRCLE, (2, []), 0),
            (CIRCLE, KINK, 0),
            ((1, KINK[1]), KINK, 0),
            ((1, KINK[1]), (1, [1, 0, 0, 1, 0]), 1),
            ((1, KINK[1]), (1, [1, 0, 0, 1, 1]), 0),
            (KINK, KINK_MINUS, 0),
            (HOPF, HOPF_MINUS, 0),
            (HOPF, NAMED["poke"], 0),
            (HOPF, beside(KINK, KINK), 0),
            (HOPF, TREFOIL, 0),
            (braid(3, [1, -2, 1, -2]), braid(3, [-2, 1, -2, 1]), 1),
            (braid(3, [1, -2, 1, -2]), braid(3, [2, -1, 2, -1]), 0),
            (braid(2, [1, 1, 1]), TREFOIL, 1),
            (braid(3, [1, 2]), braid(3, [2, 1]), 1),
            (braid(3, [1, -2]), braid(3, [-1, 2]), 0),
            (braid(2, [1, -1, 1, 1]), braid(2, [1, 1, 1, -1]), 1),
            (braid(2, [1, -1, 1, -1]), braid(2, [1, 1, -1, -1]), 0),
            (NAMED["8_19"], NAMED["8_18"], 0),
        ):
            self.assertEqual(are_same(one, other), expected, (one, other))

    def test_pieces_in_another_order(self):
        pieces = [TREFOIL, KINK, HOPF, KINK_MINUS, CIRCLE]
        lot = Random(52)
        for order in permutations(pieces):
            self.assertEqual(are_same(beside(*pieces), mixed(beside(*order), lot)), 1)

    def test_other_pieces(self):
        for one, other in (
            ([KINK, KINK, KINK_MINUS], [KINK, KINK_MINUS, KINK_MINUS]),
            ([TREFOIL, TREFOIL_MINUS], [TREFOIL, TREFOIL]),
            ([HOPF, HOPF, KINK], [HOPF, HOPF_MINUS, KINK]),
            ([HOPF, TREFOIL], [HOPF, KINK, KINK, KINK]),
            ([KINK, KINK, HOPF], [KINK, KINK, KINK, KINK]),
            ([KINK] * 5 + [KINK_MINUS] * 3, [KINK] * 4 + [KINK_MINUS] * 4),
        ):
            self.assertEqual(are_same(beside(*one), beside(*other)), 0)
            self.assertEqual(are_same(beside(*one), beside(*reversed(one))), 1)

    def test_mirrored_and_turned(self):
        for name, as_mirror, as_turned, as_both in (
            ("circle", 1, 1, 1),
            ("kink", 0, 1, 0),
            ("two kinks", 0, 1, 0),
            ("kinks of either sign", 0, 0, 1),
            ("poke", 1, 1, 1),
            ("Hopf", 0, 1, 0),
            ("trefoil", 0, 1, 0),
            # Along the strand: over +, under -, over -, under +; mirrored or turned over +, under +, over -, under -.
            ("figure eight", 0, 0, 1),
            ("7_1", 0, 1, 0),
            ("kink beside kink", 1, 1, 1),
        ):
            told = ask(put(0, *NAMED[name]), mirror(1, 0), turn(2, 0), turn(3, 1), same(0, 1), same(2, 0), same(3, 0))
            self.assertEqual(told[4:], [[as_mirror], [as_turned], [as_both]], name)

    def test_flipped(self):
        for drawing in (KINK, HOPF, TREFOIL_MINUS, FIGURE_EIGHT, NAMED["7_1"]):
            for x in range(size(drawing)):
                told = ask(put(0, *drawing), flip(1, 0, x), same(0, 1), flip(1, 1, x), same(0, 1))
                self.assertEqual(told, [[0], [0], [0], [0], [1]])

    def test_mirrored_turned_and_flipped_by_the_words(self):
        for drawing in many(Random(53), 150):
            others = [oracle.mirrored(drawing), oracle.turned(drawing), oracle.turned(oracle.mirrored(drawing))]
            others += [oracle.flipped(drawing, x) for x in range(size(drawing))]
            if drawing[1]:
                others.append(strand_turned(drawing, 0))
            for other in others:
                self.assertEqual(are_same(drawing, other), int(oracle.same(drawing, other)), (drawing, other))

    def test_all_small_ones(self):
        small = all_drawings(1) + all_drawings(2)
        for one, other in product(small, repeat=2):
            self.assertEqual(are_same(one, other), int(oracle.same(one, other)), (one, other))

    def test_all_of_three_crossings(self):
        drawings = all_drawings(3)
        lot = Random(54)
        seen = set()
        for one in drawings:
            for other in lot.sample(drawings, 4):
                answer = are_same(one, other)
                seen.add(answer)
                self.assertEqual(answer, int(oracle.same(one, other)), (one, other))
        self.assertEqual(seen, {0, 1})

    def test_one_circle_more(self):
        for drawing in NAMED.values():
            if drawing[0] < 4:
                self.assertEqual(are_same(drawing, (drawing[0] + 1, drawing[1])), 0)

    def test_places_without_a_drawing(self):
        for place in (0, 2, 5, 6, LARGEST):
            told = ask(put(1, *TREFOIL), same(place, 1), same(1, place), same(place, place), same(1, 1))
            self.assertEqual(told, [[0], [-1], [-1], [-1], [1]])


if __name__ == "__main__":
    unittest.main()

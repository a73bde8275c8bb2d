"""unkink, unpoke, plain."""

import unittest
from itertools import permutations, product
from random import Random

from tests import oracle
from tests.growing import all_drawings, circle_with_kink, many, mixed, size, strand_turned, with_kink, with_poke
from tests.helping import (
    CIRCLE, FIGURE_EIGHT, HOPF, HOPF_MINUS, KINK, KINK_MINUS, NAMED, TREFOIL, TREFOIL_MINUS,
    ask, beside, braid, get, made, plain, put, renumbered, told_as, unkink, unpoke,
)

SMALL = all_drawings(1) + all_drawings(2) + all_drawings(3)
DRAWINGS = list(NAMED.values()) + many(Random(31), 200)
ORDINARY = [TREFOIL, TREFOIL_MINUS, FIGURE_EIGHT, HOPF, HOPF_MINUS, (3, TREFOIL[1]), beside(HOPF, KINK, CIRCLE)]

# One drawing numbered in two ways, and what is undone of it, one after another.
IN_TWO_ORDERS = [
    ((2, [7, 2, 3, 0, 0, 6, 9, 0, 8, 1, 2, 5, 4, 3, 1, 5, 6, 1, 4, 0, 9, 1, 8, 7, 0]), [(0, 2), (0, 1), (0,)]),
    ((2, [4, 1, 7, 3, 1, 1, 5, 3, 9, 0, 9, 2, 8, 7, 0, 6, 4, 5, 0, 0, 2, 6, 0, 8, 1]), [(0, 1), (0,), (0,), (0,)]),
]


def in_bounds(drawing):
    """What a call answers and leaves where this is made."""
    return ([0], drawing) if drawing[0] <= 4 else ([-2], None)


def arc_orders(drawing):
    """The drawing with its arcs numbered in every order, or in many."""
    n = size(drawing)
    orders = permutations(range(2 * n)) if n < 4 else [Random(k).sample(range(2 * n), 2 * n) for k in range(100)]
    return [renumbered(drawing, range(n), arcs) for arcs in orders]


class Kinks(unittest.TestCase):
    def test_of_all_four_kinds(self):
        for drawing in ORDINARY:
            for arc, below_first, sign in product(range(2 * size(drawing)), (True, False), range(2)):
                kinked = with_kink(drawing, arc, below_first, sign)
                self.assertEqual(made(unkink(0, 1, size(drawing)), kinked), ([0], drawing))

    def test_down_to_no_crossing(self):
        for row in ([0, 1, 1, 0, 0], [0, 1, 1, 0, 1], [1, 0, 0, 1, 0], [1, 0, 0, 1, 1]):
            for own in range(4):
                self.assertEqual(made(unkink(0, 1, 0), (own, row)), ([0], (own + 1, [])))
            self.assertEqual(made(unkink(0, 1, 0), (4, row)), ([-2], None))

    def test_one_that_leaves_crossings_and_a_circle(self):
        for drawing in ORDINARY:
            with_circle = drawing[0] + 1, drawing[1]
            for below_first, sign in product((True, False), range(2)):
                kinked = circle_with_kink(with_circle, below_first, sign)
                self.assertEqual(made(unkink(0, 1, size(drawing)), kinked), ([0], with_circle))

    def test_number_by_number(self):
        for drawing, crossing, expected in (
            # 5, 1 and 3 are one arc, which is called 1; 2 is still 2, 4 is called 3.
            ((0, [5, 1, 1, 3, 0, 3, 4, 0, 2, 0, 2, 0, 4, 5, 0]), 0, (0, [1, 3, 0, 2, 0, 2, 0, 3, 1, 0])),
            # 1, 0 and 3 are one arc, called 0; 2 is called 1.
            ((0, [1, 0, 0, 3, 0, 2, 1, 3, 2, 0]), 0, (0, [1, 0, 0, 1, 0])),
            # 3, 2 and 1 are one arc, called 1.
            ((0, [1, 0, 0, 3, 0, 2, 1, 3, 2, 0]), 1, (0, [1, 0, 0, 1, 0])),
            # 2, 0 and 1 are one arc, called 0; 3 is called 1.
            ((0, [2, 0, 0, 1, 1, 1, 3, 3, 2, 0]), 0, (0, [0, 1, 1, 0, 0])),
        ):
            self.assertEqual(oracle.undone(drawing, (crossing,)), expected)
            self.assertEqual(made(unkink(0, 1, crossing), drawing), ([0], expected))

    def test_all_that_are_and_are_none(self):
        for drawing in SMALL + DRAWINGS:
            for x in range(size(drawing)):
                answer = made(unkink(0, 1, x), drawing)
                if x in oracle.kinks(drawing):
                    self.assertEqual(answer, in_bounds(oracle.undone(drawing, (x,))), (drawing, x))
                else:
                    self.assertEqual(answer, ([-3], None), (drawing, x))

    def test_known_ones_that_are_none(self):
        for drawing in (TREFOIL, TREFOIL_MINUS, HOPF, HOPF_MINUS, FIGURE_EIGHT, NAMED["poke"], (4, HOPF[1])):
            for x in range(size(drawing)):
                self.assertEqual(made(unkink(0, 1, x), drawing), ([-3], None))

    def test_arcs_numbered_in_every_order(self):
        for drawing in (NAMED["two kinks"], NAMED["kinks of either sign"], with_kink(HOPF, 2, True, 1),
                        with_kink(TREFOIL, 5, False, 0), with_kink(FIGURE_EIGHT, 0, True, 0)):
            for numbered in arc_orders(drawing):
                for x in oracle.kinks(drawing):
                    self.assertEqual(made(unkink(0, 1, x), numbered), ([0], oracle.undone(numbered, (x,))))


class Pokes(unittest.TestCase):
    def test_both_ways(self):
        for drawing in ORDINARY + [KINK, KINK_MINUS, beside(KINK, TREFOIL), braid(3, [1, -2])]:
            n = size(drawing)
            seen = {True: 0, False: 0}
            for over, under, same_way in product(range(2 * n), range(2 * n), (True, False)):
                for poked in with_poke(drawing, over, under, same_way):
                    seen[same_way] += 1
                    self.assertEqual(made(unpoke(0, 1, n, n + 1), poked), ([0], drawing))
                    self.assertEqual(made(unpoke(0, 1, n + 1, n), poked), ([0], drawing))
            self.assertTrue(seen[True] and seen[False], drawing)

    def test_down_to_no_crossing(self):
        for poke in (braid(2, [1, -1]), braid(2, [-1, 1]), strand_turned(braid(2, [1, -1]), 0)):
            for own in range(3):
                self.assertEqual(made(unpoke(0, 1, 0, 1), (own, poke[1])), ([0], (own + 2, [])))
            for own in (3, 4):
                self.assertEqual(made(unpoke(0, 1, 1, 0), (own, poke[1])), ([-2], None))

    def test_one_that_leaves_crossings_and_circles(self):
        drawing = beside(TREFOIL, NAMED["poke"], KINK)
        self.assertEqual(made(unpoke(0, 1, 3, 4), drawing), ([0], (2, beside(TREFOIL, KINK)[1])))

    def test_number_by_number(self):
        # 0 comes in below at 0, 2 and 4 are behind it; 1 comes in above at 0, 3 and 5 are behind it.
        twisted = (0, [0, 2, 1, 3, 0, 2, 4, 3, 5, 1, 4, 1, 5, 0, 0])
        self.assertEqual(made(unpoke(0, 1, 0, 1), twisted), ([0], (0, [0, 1, 1, 0, 0])))
        self.assertEqual(made(unpoke(0, 1, 1, 2), twisted), ([0], (0, [0, 1, 1, 0, 0])))
        self.assertEqual(made(unpoke(0, 1, 0, 2), twisted), ([-3], None))

    def test_the_same_crossing_twice(self):
        for drawing in DRAWINGS:
            for x in range(size(drawing)):
                self.assertEqual(made(unpoke(0, 1, x, x), drawing), ([-3], None))

    def test_all_that_are_and_are_none(self):
        for drawing in SMALL + DRAWINGS:
            for x, y in product(range(size(drawing)), repeat=2):
                answer = made(unpoke(0, 1, x, y), drawing)
                if (min(x, y), max(x, y)) in oracle.pokes(drawing):
                    self.assertEqual(answer, in_bounds(oracle.undone(drawing, (x, y))), (drawing, x, y))
                else:
                    self.assertEqual(answer, ([-3], None), (drawing, x, y))

    def test_known_ones_that_are_none(self):
        for drawing in (TREFOIL, TREFOIL_MINUS, HOPF, HOPF_MINUS, FIGURE_EIGHT, beside(KINK, KINK_MINUS), (4, HOPF[1])):
            for x, y in product(range(size(drawing)), repeat=2):
                self.assertEqual(made(unpoke(0, 1, x, y), drawing), ([-3], None))

    def test_signs_that_do_not_differ(self):
        # The strand above and the strand below lead from 0 to 1, but both have the same sign.
        drawing = beside(braid(2, [1, 1]), braid(2, [1, -1]))
        self.assertEqual(made(unpoke(0, 1, 0, 1), drawing), ([-3], None))
        self.assertEqual(made(unpoke(0, 1, 2, 3), drawing)[0], [0])

    def test_only_above_or_only_below(self):
        for drawing in DRAWINGS:
            fives = oracle.fives(drawing[1])
            for x, y in permutations(range(size(drawing)), 2):
                above = fives[x][3] == fives[y][2] or fives[y][3] == fives[x][2]
                below = fives[x][1] == fives[y][0] or fives[y][1] == fives[x][0]
                if above != below:
                    self.assertEqual(made(unpoke(0, 1, x, y), drawing), ([-3], None))

    def test_arcs_numbered_in_every_order(self):
        other_way = with_poke(HOPF, 0, 3, False)[0]
        same_way = with_poke(TREFOIL, 1, 4, True)[0]
        for drawing in (NAMED["poke"], braid(2, [1, -1, 1]), other_way, same_way):
            for numbered in arc_orders(drawing):
                for gone in oracle.pokes(drawing):
                    self.assertEqual(made(unpoke(0, 1, *gone), numbered), in_bounds(oracle.undone(numbered, gone)))


class Plain(unittest.TestCase):
    def test_nothing_to_undo(self):
        for drawing in (CIRCLE, (4, []), TREFOIL, TREFOIL_MINUS, HOPF, HOPF_MINUS, FIGURE_EIGHT, (4, HOPF[1]),
                        NAMED["8_18"], NAMED["Borromean"], NAMED["8 crossings and 4 circles"]):
            self.assertEqual(made(plain(0, 1), drawing), ([0], drawing))

    def test_known_ones(self):
        for drawing, undone, left in (
            (KINK, 1, CIRCLE),
            ((3, KINK_MINUS[1]), 1, (4, [])),
            (NAMED["poke"], 1, (2, [])),
            (NAMED["two kinks"], 2, CIRCLE),
            (NAMED["8 kinks"], 8, CIRCLE),
            (beside(KINK, TREFOIL, KINK_MINUS), 2, (2, TREFOIL[1])),
            (beside(KINK, NAMED["poke"], KINK_MINUS), 3, (4, [])),
            (beside(NAMED["poke"], HOPF, NAMED["poke"]), 2, (4, HOPF[1])),
            (with_kink(with_kink(HOPF, 0, True, 1), 0, False, 0), 2, HOPF),
        ):
            self.assertEqual(made(plain(0, 1), drawing), ([undone], left))

    def test_a_kink_that_comes_up_after_a_poke(self):
        for word in ([1, -1, 1], [-1, 1, 1], [1, 1, -1], [-1, -1, 1]):
            drawing = braid(2, word)
            self.assertEqual(oracle.kinks(drawing), [])
            self.assertEqual(made(plain(0, 1), drawing), ([2], CIRCLE))
        # A poke, then a kink, then a poke and again a kink.
        drawing = braid(3, [1, 2, -1, 1, 2, -2])
        self.assertEqual(oracle.kinks(drawing), [])
        self.assertEqual(made(plain(0, 1), drawing), ([4], CIRCLE))

    def test_the_kink_with_the_least_number_first(self):
        # Undone from the least number up, the numbers of what is left are these.
        for drawing in (with_kink(with_kink(TREFOIL, 4, True, 0), 4, False, 0),
                        with_kink(with_kink(HOPF, 1, True, 0), 5, True, 0)):
            n = size(drawing)
            for order in permutations(range(n)):
                numbered = renumbered(drawing, order, range(2 * n))
                left, done = oracle.plain(numbered)
                self.assertEqual(made(plain(0, 1), numbered), ([len(done)], left))

    def test_kinks_before_pokes(self):
        # 0 and 1 are a poke, and each is a kink.
        drawing = (0, [0, 1, 1, 3, 0, 2, 0, 3, 2, 1])
        self.assertEqual(made(unpoke(0, 1, 0, 1), drawing), ([0], CIRCLE))
        self.assertEqual(made(unkink(0, 1, 1), drawing)[0], [0])
        self.assertEqual(made(plain(0, 1), drawing), ([2], CIRCLE))

    def test_the_poke_whose_lesser_crossing_is_least(self):
        # With [-, +, +, +] the pokes are 0 with 1 and 0 with 3: what is left is 2 and 3, a Hopf link of these arcs.
        drawing = braid(2, [-1, 1, 1, 1])
        self.assertEqual(drawing[1], [0, 3, 1, 2, 1, 3, 4, 2, 5, 0, 5, 6, 4, 7, 0, 7, 0, 6, 1, 0])
        self.assertEqual(made(unpoke(0, 1, 0, 3), drawing), ([0], (0, [0, 2, 1, 3, 0, 3, 1, 2, 0, 0])))
        self.assertEqual(made(unpoke(0, 1, 0, 1), drawing), ([0], (0, [1, 2, 0, 3, 0, 3, 0, 2, 1, 0])))
        self.assertEqual(made(plain(0, 1), drawing), ([1], (0, [1, 2, 0, 3, 0, 3, 0, 2, 1, 0])))
        # Here they are 1 with 2 and 2 with 3; then 0 with 2 and 1 with 2; then 0 with 3 and 2 with 3.
        for row, first, second in (
            ([6, 2, 0, 3, 0, 7, 0, 1, 6, 0, 4, 7, 5, 1, 1, 3, 4, 2, 5, 0], (1, 2), (2, 3)),
            ([3, 0, 1, 6, 0, 5, 4, 2, 7, 0, 4, 3, 7, 1, 1, 6, 2, 0, 5, 0], (0, 2), (1, 2)),
            ([7, 0, 4, 1, 0, 1, 3, 0, 6, 0, 6, 2, 3, 5, 0, 2, 7, 5, 4, 1], (0, 3), (2, 3)),
        ):
            drawing = (0, row)
            self.assertEqual(made(plain(0, 1), drawing), ([1], made(unpoke(0, 1, *first), drawing)[1]))
            self.assertEqual(made(unpoke(0, 1, *second), drawing)[0], [0])
            self.assertNotEqual(made(plain(0, 1), drawing)[1], made(unpoke(0, 1, *second), drawing)[1])

    def test_how_many_hangs_on_the_order(self):
        first, second = [drawing for drawing, done in IN_TWO_ORDERS]
        self.assertTrue(oracle.same(first, second))
        for drawing, done in IN_TWO_ORDERS:
            self.assertEqual(oracle.plain(drawing)[1], done)
            self.assertEqual(made(plain(0, 1), drawing), ([len(done)], oracle.plain(drawing)[0]))

    def test_by_the_words(self):
        for drawing in SMALL + DRAWINGS:
            left, done = oracle.plain(drawing)
            answer = ([len(done)], left) if left[0] <= 4 else ([-2], None)
            self.assertEqual(made(plain(0, 1), drawing), answer, drawing)

    def test_step_by_step(self):
        for drawing in DRAWINGS:
            left, done = oracle.plain(drawing)
            if left[0] <= 4:
                steps = [unkink(1, 1, *gone) if len(gone) == 1 else unpoke(1, 1, *gone) for gone in done]
                told = ask(put(1, *drawing), plain(0, 1), *steps, get(1), get(0), plain(0, 0), get(0))
                self.assertEqual(told[1:2 + len(done)], [[len(done)]] + [[0]] * len(done))
                self.assertEqual(told[2 + len(done):], [told_as(left), told_as(left), [0], told_as(left)])

    def test_too_many_circles(self):
        for drawing in ((4, KINK[1]), (3, NAMED["poke"][1]), NAMED["8 kinks in 8 pieces"], beside(*[KINK] * 5),
                        (4, with_kink(KINK, 0, True, 0)[1])):
            self.assertEqual(made(plain(0, 1), drawing), ([-2], None))
        self.assertEqual(made(plain(0, 1), beside(*[KINK] * 4)), ([4], (4, [])))
        self.assertEqual(made(plain(0, 1), (2, NAMED["poke"][1])), ([1], (4, [])))

    def test_arcs_numbered_in_every_order(self):
        for drawing in (braid(2, [1, -1, 1]), with_kink(HOPF, 3, True, 1), with_kink(TREFOIL, 0, False, 1),
                        braid(3, [1, 2, -1, 1, 2, -2]), with_kink(NAMED["5_1"], 3, True, 0)):
            for numbered in arc_orders(drawing):
                left, done = oracle.plain(numbered)
                self.assertEqual(made(plain(0, 1), numbered), ([len(done)], left))

    def test_what_is_left_is_the_same_whatever_the_numbers_are(self):
        lot = Random(33)
        for drawing in DRAWINGS:
            left = oracle.plain(drawing)[0]
            if left[0] <= 4:
                for time in range(2):
                    self.assertTrue(oracle.same(made(plain(0, 1), mixed(drawing, lot))[1], left), drawing)


if __name__ == "__main__":
    unittest.main()

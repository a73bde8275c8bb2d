"""count, strand, sum, writhe, circles."""

import unittest

from tests import oracle
from tests.helping import (
    CIRCLE, FIGURE_EIGHT, HOPF, HOPF_MINUS, KINK, KINK_MINUS, LARGEST, NAMED, TREFOIL, TREFOIL_MINUS,
    ask, ask_of, circles, count, put, strand, sum_of, writhe,
)


def counts(drawing):
    return [answer[0] for answer in ask_of(drawing, *[count(0, what) for what in range(6)])]


class Counts(unittest.TestCase):
    def test_known_ones(self):
        for name, expected in {
            "circle": [0, 1, 1, 1, 0, 1],
            "four circles": [0, 4, 4, 4, 0, 4],
            "kink": [1, 0, 1, 1, 3, 2],
            "kink, minus": [1, 0, 1, 1, 3, 2],
            "kink and circles": [1, 3, 4, 4, 3, 5],
            "poke": [2, 0, 2, 1, 4, 2],
            "Hopf": [2, 0, 2, 1, 4, 2],
            "Hopf, minus": [2, 0, 2, 1, 4, 2],
            "Hopf and circles": [2, 4, 6, 5, 4, 6],
            "trefoil": [3, 0, 1, 1, 5, 2],
            "trefoil, minus": [3, 0, 1, 1, 5, 2],
            "figure eight": [4, 0, 1, 1, 6, 3],
            "Borromean": [6, 0, 3, 1, 8, 3],
            "8_19": [8, 0, 1, 1, 10, 3],
            "8 kinks": [8, 0, 1, 1, 10, 9],
            "8 crossings and 4 circles": [8, 4, 6, 5, 10, 6],
            "Hopf beside trefoil": [5, 0, 3, 2, 9, 4],
            "trefoils, kink and circle": [7, 1, 4, 4, 13, 7],
            "8 kinks in 8 pieces": [8, 0, 8, 8, 24, 16],
        }.items():
            with self.subTest(name):
                self.assertEqual(counts(NAMED[name]), expected)

    def test_by_the_words(self):
        for name, drawing in NAMED.items():
            with self.subTest(name):
                own, row = drawing
                n = len(row) // 5
                self.assertEqual(counts(drawing), [
                    n, own, len(set(oracle.strands(row))) + own, oracle.pieces(row) + own, oracle.faces(row),
                    oracle.circles_of(drawing, ["along"] * n),
                ])

    def test_what_is_not_there(self):
        for what in (6, 7, LARGEST):
            self.assertEqual(ask_of(TREFOIL, count(0, what)), [[-1]])


class Strands(unittest.TestCase):
    def test_by_their_least_arcs(self):
        self.assertEqual(ask_of(HOPF, *[strand(0, arc) for arc in range(4)]), [[0], [0], [1], [1]])
        self.assertEqual(ask_of(TREFOIL, *[strand(0, arc) for arc in range(6)]), [[0]] * 6)

    def test_by_the_words(self):
        for name, (own, row) in NAMED.items():
            with self.subTest(name):
                told = ask_of((own, row), *[strand(0, arc) for arc in range(2 * len(row) // 5)])
                self.assertEqual(told, [[number] for number in oracle.strands(row)])

    def test_arcs_that_are_not_there(self):
        for drawing in ((4, []), KINK, (2, HOPF[1]), NAMED["8_18"]):
            arcs = 2 * len(drawing[1]) // 5
            told = ask_of(drawing, strand(0, arcs), strand(0, arcs + 1), strand(0, LARGEST))
            self.assertEqual(told, [[-1]] * 3)


class Sums(unittest.TestCase):
    def test_a_strand_with_itself(self):
        for drawing, expected in (
            (CIRCLE, 0), (KINK, 1), (KINK_MINUS, -1), (TREFOIL, 3), (TREFOIL_MINUS, -3), (FIGURE_EIGHT, 0), (HOPF, 0),
        ):
            self.assertEqual(ask_of(drawing, sum_of(0, 0, 0)), [[0, expected]])

    def test_linking_numbers(self):
        for drawing, expected in (
            (HOPF, 1), (HOPF_MINUS, -1), (NAMED["4 crossings, 2 strands"], 2),
            (NAMED["8 crossings, 2 strands"], 4), (NAMED["poke"], 0), (NAMED["Whitehead"], 0),
        ):
            self.assertEqual(ask_of(drawing, sum_of(0, 0, 1), sum_of(0, 1, 0)), [[0, expected]] * 2)

    def test_circles_are_strands_too(self):
        told = ask_of((2, HOPF[1]), sum_of(0, 0, 2), sum_of(0, 3, 1), sum_of(0, 2, 2), sum_of(0, 2, 3), sum_of(0, 0, 1))
        self.assertEqual(told, [[0, 0]] * 4 + [[0, 1]])

    def test_by_the_words(self):
        for name, (own, row) in NAMED.items():
            of = oracle.strands(row)
            total = len(set(of)) + own
            pairs = [(i, j) for i in range(min(total, 7)) for j in range(min(total, 7))]
            told = ask_of((own, row), *[sum_of(0, i, j) for i, j in pairs])
            for (i, j), answer in zip(pairs, told):
                signs = [1 - 2 * s for ui, uo, oi, oo, s in oracle.fives(row) if {of[ui], of[oi]} == {i, j}]
                self.assertEqual(sum(signs) % 2 if i != j else 0, 0)
                self.assertEqual(answer, [0, sum(signs) if i == j else sum(signs) // 2], (name, i, j))

    def test_strands_that_are_not_there(self):
        for drawing, strands in (
            (CIRCLE, 1), ((4, []), 4), (TREFOIL, 1), (HOPF, 2), ((4, HOPF[1]), 6), (NAMED["8 kinks in 8 pieces"], 8),
        ):
            for wrong in (strands, strands + 1, LARGEST):
                told = ask_of(drawing, sum_of(0, wrong, 0), sum_of(0, 0, wrong), sum_of(0, wrong, wrong))
                self.assertEqual(told, [[-1]] * 3)
            self.assertEqual(ask_of(drawing, sum_of(0, strands - 1, 0))[0][0], 0)


class Writhes(unittest.TestCase):
    def test_by_the_words(self):
        for name, drawing in NAMED.items():
            with self.subTest(name):
                self.assertEqual(ask_of(drawing, writhe(0)), [[0, oracle.signs(drawing[1])]])

    def test_known_ones(self):
        for name, expected in {
            "four circles": 0, "kink": 1, "kink, minus": -1, "Hopf, minus": -2, "trefoil": 3, "trefoil, minus": -3,
            "figure eight": 0, "Whitehead": -1, "7_1": -7, "8_19": 8, "8_20": -2,
        }.items():
            with self.subTest(name):
                self.assertEqual(ask_of(NAMED[name], writhe(0)), [[0, expected]])


class Circles(unittest.TestCase):
    def test_kinks(self):
        self.assertEqual(ask_of(KINK, circles(0, 0), circles(0, 1)), [[2], [1]])
        self.assertEqual(ask_of(KINK_MINUS, circles(0, 0), circles(0, 1)), [[1], [2]])

    def test_trefoils(self):
        expected = [2, 1, 1, 2, 1, 2, 2, 3]
        self.assertEqual(ask_of(TREFOIL, *[circles(0, s) for s in range(8)]), [[z] for z in expected])
        self.assertEqual(ask_of(TREFOIL_MINUS, *[circles(0, 7 - s) for s in range(8)]), [[z] for z in expected])

    def test_by_the_words(self):
        for name, drawing in NAMED.items():
            n = len(drawing[1]) // 5
            states = list(range(2 ** n))[::max(1, 2 ** n // 50)] + [2 ** n - 1]
            told = ask_of(drawing, *[circles(0, state) for state in states])
            expected = [[oracle.circles_of(drawing, oracle.state_ways(drawing[1], state))] for state in states]
            self.assertEqual(told, expected, name)

    def test_higher_bits_count_for_nothing(self):
        for name, drawing in NAMED.items():
            n = len(drawing[1]) // 5
            all_b = 2 ** n - 1
            told = ask_of(drawing, circles(0, all_b), circles(0, LARGEST), circles(0, 0), circles(0, LARGEST - all_b))
            self.assertEqual(told[0], told[1], name)
            self.assertEqual(told[2], told[3], name)


class PlacesThatHaveNoDrawing(unittest.TestCase):
    def test_each_call(self):
        for place in (0, 4, 6, LARGEST):
            told = ask(
                put(5, *TREFOIL), count(place, 0), count(place, 9), strand(place, 0), sum_of(place, 0, 0),
                writhe(place), circles(place, 0),
            )
            self.assertEqual(told, [[0]] + [[-1]] * 6)


if __name__ == "__main__":
    unittest.main()

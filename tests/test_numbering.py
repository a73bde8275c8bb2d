"""Whatever numbers its arcs and crossings have, a drawing has the same of all that is told (promise 4)."""

import unittest
from random import Random

from tests import oracle
from tests.helping import (
    NAMED, alexander, ask_of, bracket, circles, colours, count, jones, renumbered, strand, sum_of, writhe,
)

TELLING = [count(0, what) for what in range(6)] + [writhe(0), bracket(0), jones(0), alexander(0)]
TELLING += [colours(0, p) for p in (2, 3, 5, 7, 97)]


def orders(size, lot):
    """Some orders of the numbers below size: turned about, and by lot."""
    return [list(reversed(range(size))), list(range(1, size)) + [0]] + [lot.sample(range(size), size) for k in range(3)]


class Renumbered(unittest.TestCase):
    def setUp(self):
        self.cases = []
        lot = Random(11)
        for name, drawing in NAMED.items():
            n = len(drawing[1]) // 5
            if n > 0:
                for order, arcs in zip(orders(n, lot), orders(2 * n, lot)):
                    self.cases.append((name, drawing, order, arcs))

    def test_what_is_told_is_the_same(self):
        for name, drawing, order, arcs in self.cases:
            told = ask_of(renumbered(drawing, order, arcs), *TELLING)
            self.assertEqual(told, ask_of(drawing, *TELLING), (name, order, arcs))

    def test_circles_follow_their_crossings(self):
        for name, drawing, order, arcs in self.cases:
            for state in (0, 1, 0b10110100, 0b01010101, 0b11111110):
                moved = sum(1 << new for new, old in enumerate(order) if state >> old & 1)
                told = ask_of(renumbered(drawing, order, arcs), circles(0, moved))
                self.assertEqual(told, ask_of(drawing, circles(0, state)), (name, order, state))

    def test_strands_and_sums_follow_their_arcs(self):
        for name, drawing, order, arcs in self.cases:
            new = renumbered(drawing, order, arcs)
            old_strands = oracle.strands(drawing[1])
            told = [answer[0] for answer in ask_of(new, *[strand(0, arc) for arc in range(len(arcs))])]
            pairs = sorted({(old_strands[arc], told[arcs[arc]]) for arc in range(len(arcs))})
            self.assertEqual(len(pairs), len(set(old_strands)), name)
            self.assertEqual(len({number for old, number in pairs}), len(pairs), name)
            firsts = [told.index(number) for number in range(len(pairs))]
            self.assertEqual(firsts, sorted(firsts), name)
            for old_i, new_i in pairs[:6]:
                for old_j, new_j in pairs[:6]:
                    one = ask_of(new, sum_of(0, new_i, new_j))
                    self.assertEqual(one, ask_of(drawing, sum_of(0, old_i, old_j)), name)


if __name__ == "__main__":
    unittest.main()

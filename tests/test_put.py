"""put and get: what can be drawn is taken, the rest is refused (promise 1)."""

import unittest
from itertools import permutations, product
from random import Random

from tests import oracle
from tests.helping import (
    CIRCLE, FIGURE_EIGHT, HOPF, KINK, LARGEST, NAMED, TREFOIL, ask, beside, get, put, renumbered,
)


def answers_to_puts(drawings):
    """What put answers to each drawing (circles, row), asked 60 to a line."""
    told = []
    for at in range(0, len(drawings), 60):
        told.extend(ask(*[put(0, circles, row) for circles, row in drawings[at:at + 60]]))
    return told


class Taken(unittest.TestCase):
    def test_each_drawing_is_taken_and_given_back(self):
        for name, (circles, row) in NAMED.items():
            with self.subTest(name):
                self.assertEqual(ask(put(0, circles, row), get(0)), [[0], [len(row) // 5, circles] + row])

    def test_every_place(self):
        puts = [put(place, place % 4 + 1, []) for place in range(6)]
        gets = [get(place) for place in range(6)]
        self.assertEqual(ask(*puts, *gets), [[0]] * 6 + [[0, place % 4 + 1] for place in range(6)])

    def test_a_later_drawing_takes_the_place(self):
        told = ask(put(5, *TREFOIL), put(5, *HOPF), get(5))
        self.assertEqual(told, [[0], [0], [2, 0] + HOPF[1]])

    def test_circles_up_to_four(self):
        told = ask(*[put(0, circles, []) for circles in range(6)])
        self.assertEqual(told, [[-1], [0], [0], [0], [0], [-1]])
        told = ask(*[put(0, circles, KINK[1]) for circles in range(6)])
        self.assertEqual(told, [[0], [0], [0], [0], [0], [-1]])

    def test_crossings_up_to_eight(self):
        for pieces in range(1, 13):
            drawing = beside(*[KINK] * pieces)
            self.assertEqual(ask(put(0, *drawing)), [[0] if pieces <= 8 else [-1]], pieces)

    def test_arcs_that_leave_and_arrive_at_the_same_crossing(self):
        for sign in (0, 1):
            for row in ([0, 1, 1, 0, sign], [1, 0, 0, 1, sign]):
                self.assertEqual(ask(put(0, 0, row), get(0)), [[0], [1, 0] + row])


class NumbersNotAsTold(unittest.TestCase):
    def test_places_that_are_not_there(self):
        for place in (6, 7, 65536, LARGEST):
            self.assertEqual(ask(put(place, 1, []), get(place)), [[-1], [-1]])

    def test_places_that_are_empty(self):
        self.assertEqual(ask(*[get(place) for place in range(6)]), [[-1]] * 6)

    def test_no_crossing_and_no_circle(self):
        self.assertEqual(ask(put(0, 0, []), get(0)), [[-1], [-1]])

    def test_too_many_circles(self):
        for circles in (5, 6, 256, LARGEST):
            self.assertEqual(ask(put(0, circles, []), put(0, circles, TREFOIL[1])), [[-1], [-1]])

    def test_lengths_that_are_no_multiple_of_five(self):
        whole = beside(*[KINK] * 13)[1]
        for length in range(0, 65):
            told = ask(put(0, 1, whole[:length]))
            self.assertEqual(told == [[-1]], length % 5 != 0 or length > 40, length)

    def test_a_number_too_large_is_refused_wherever_it_stands(self):
        for drawing in (KINK, HOPF, TREFOIL, FIGURE_EIGHT, NAMED["8_18"]):
            row = drawing[1]
            for k in range(len(row)):
                least = 2 if k % 5 == 4 else 2 * len(row) // 5
                for wrong in (least, least + 1, LARGEST):
                    self.assertEqual(ask(put(0, 0, row[:k] + [wrong] + row[k + 1:])), [[-1]], (row, k, wrong))

    def test_before_all_else(self):
        loose = [0, 0, 0, 0, 0]
        off_ball = [0, 0, 1, 1, 0]
        for row in (loose, off_ball):
            told = ask(put(6, 0, row), put(0, 5, row), put(0, 0, row + [0]), put(0, 0, row + [0, 0, 0, 0, 2]))
            self.assertEqual(told, [[-1]] * 4)


class LooseArcs(unittest.TestCase):
    def test_the_least_one_is_told(self):
        told = answers_to_puts([
            (0, [0, 0, 0, 0, 0]),
            (0, [0, 1, 0, 1, 0]),
            (0, [0, 1, 1, 1, 0]),
            (0, [0, 0, 1, 0, 0]),
            (0, [1, 1, 1, 1, 1]),
            (0, KINK[1] + [2, 2, 2, 2, 0]),
            (0, KINK[1] + [2, 3, 3, 3, 0]),
            (0, KINK[1] + [3, 3, 3, 3, 0]),
            (2, KINK[1] + KINK[1]),
        ])
        self.assertEqual(told, [[-6, least] for least in (0, 0, 0, 0, 0, 2, 2, 2, 0)])

    def test_the_highest_arcs(self):
        row = list(beside(*[KINK] * 8)[1])
        row[36:38] = [14, 14]
        self.assertEqual(ask(put(0, 0, row)), [[-6, 14]])

    def test_an_arc_that_leaves_twice_while_another_leaves_never(self):
        self.assertEqual(ask(put(0, 0, [0, 1, 2, 3, 0, 3, 1, 1, 0, 0])), [[-6, 1]])
        self.assertEqual(ask(put(0, 0, [0, 1, 2, 3, 0, 3, 2, 2, 0, 0])), [[-6, 1]])

    def test_before_the_ball(self):
        self.assertEqual(ask(put(0, 0, [0, 0, 1, 1, 0, 2, 2, 2, 2, 0])), [[-6, 2]])


class NotOnABall(unittest.TestCase):
    def test_two_strands_that_cross_once(self):
        for sign in (0, 1):
            self.assertEqual(ask(put(0, 0, [0, 0, 1, 1, sign])), [[-8]])

    def test_a_sign_of_its_own(self):
        for drawing in (HOPF, TREFOIL, FIGURE_EIGHT):
            row = list(drawing[1])
            row[4] = 1 - row[4]
            self.assertEqual(ask(put(0, 0, row)), [[-8]])

    def test_one_piece_of_several(self):
        drawing = beside(TREFOIL, (0, [0, 0, 1, 1, 0]), HOPF)
        self.assertEqual(ask(put(0, 4, drawing[1])), [[-8]])


class AgainstTheWords(unittest.TestCase):
    def compare(self, drawings):
        told = answers_to_puts(drawings)
        for drawing, answer in zip(drawings, told):
            if answer != oracle.put_answer(*drawing):
                self.fail(f"{drawing}: {answer}, not {oracle.put_answer(*drawing)}")
        return told

    def test_all_of_one_crossing(self):
        told = self.compare([(0, list(row)) for row in product(range(3), repeat=5)])
        self.assertEqual(told.count([0]), 4)

    def test_all_of_two_crossings_whose_arcs_are_not_loose(self):
        drawings = []
        for into in permutations(range(4)):
            for out in permutations(range(4)):
                for one, other in product(range(2), repeat=2):
                    drawings.append((0, [into[0], out[0], into[1], out[1], one,
                                         into[2], out[2], into[3], out[3], other]))
        told = self.compare(drawings)
        self.assertEqual({answer[0] for answer in told}, {0, -8})

    def test_more_crossings_drawn_by_lot(self):
        lot = Random(5)
        drawings = []
        for n in (3, 4, 5, 8) * 60:
            into = lot.sample(range(2 * n), 2 * n)
            out = lot.sample(range(2 * n), 2 * n)
            row = []
            for x in range(n):
                row.extend([into[2 * x], out[2 * x], into[2 * x + 1], out[2 * x + 1], lot.randrange(2)])
            drawings.append((lot.randrange(3), row))
        self.compare(drawings)

    def test_one_number_changed(self):
        drawings = []
        for name in ("poke", "Hopf", "trefoil", "figure eight", "Hopf beside trefoil", "8_20"):
            circles, row = NAMED[name]
            for k in range(len(row)):
                for number in range(2 if k % 5 == 4 else 2 * len(row) // 5):
                    drawings.append((circles, row[:k] + [number] + row[k + 1:]))
        told = self.compare(drawings)
        self.assertEqual({answer[0] for answer in told}, {0, -6, -8})

    def test_two_arcs_changed_about(self):
        lot = Random(6)
        drawings = []
        for name in ("trefoil", "figure eight", "Whitehead", "8_18", "chain of 3") * 40:
            circles, row = NAMED[name]
            row = list(row)
            ends = lot.choice([(0, 2), (1, 3)])
            one = 5 * lot.randrange(len(row) // 5) + lot.choice(ends)
            other = 5 * lot.randrange(len(row) // 5) + lot.choice(ends)
            row[one], row[other] = row[other], row[one]
            drawings.append((circles, row))
        self.compare(drawings)

    def test_whatever_the_numbers_are(self):
        lot = Random(7)
        drawings = []
        for circles, row in list(NAMED.values()) + [(0, [0, 0, 1, 1, 0] + [2, 3, 3, 2, 1])]:
            n = len(row) // 5
            for time in range(5):
                drawings.append(renumbered((circles, row), lot.sample(range(n), n), lot.sample(range(2 * n), 2 * n)))
        told = self.compare(drawings)
        self.assertEqual(told, [[0]] * (len(drawings) - 5) + [[-8]] * 5)

    def test_circles_count_for_nothing_on_the_ball(self):
        self.assertEqual(ask(put(0, *CIRCLE), put(0, 3, [0, 0, 1, 1, 0])), [[0], [-8]])


if __name__ == "__main__":
    unittest.main()

"""bracket, jones, alexander, colours."""

import unittest
from fractions import Fraction

from knotbookdesk.matrices import determinant, rank_by
from tests import oracle
from tests.helping import (
    CIRCLE, HOPF, KINK, KINK_MINUS, LARGEST, NAMED, PRIMES, TREFOIL, TREFOIL_MINUS,
    alexander, ask, ask_of, bracket, colours, jones, put,
)


def told_of(powers):
    """What bracket and jones tell of the polynomial that a dict from powers to numbers stands for."""
    low = min(powers)
    high = max(powers)
    return [high - low + 1, low] + [powers.get(power, 0) for power in range(low, high + 1)]


def value_at(told, a):
    """The value of what bracket or jones told, at the fraction a."""
    return sum(number * a ** (told[1] + k) for k, number in enumerate(told[2:]))


class Brackets(unittest.TestCase):
    def test_known_ones(self):
        for drawing, powers in (
            (CIRCLE, {0: 1}),
            ((2, []), {2: -1, -2: -1}),
            ((3, []), {4: 1, 0: 2, -4: 1}),
            (KINK, {3: -1}),
            (KINK_MINUS, {-3: -1}),
            ((1, KINK[1]), {5: 1, 1: 1}),
            (HOPF, {4: -1, -4: -1}),
            (NAMED["poke"], {2: -1, -2: -1}),
            (TREFOIL, {-7: 1, -3: -1, 5: -1}),
            (TREFOIL_MINUS, {7: 1, 3: -1, -5: -1}),
            (NAMED["figure eight"], {8: 1, 4: -1, 0: 1, -4: -1, -8: 1}),
        ):
            self.assertEqual(ask_of(drawing, bracket(0)), [told_of(powers)], drawing)

    def test_by_the_words(self):
        for name, drawing in NAMED.items():
            told = ask_of(drawing, bracket(0))[0]
            self.assertEqual(told[0], len(told) - 2, name)
            self.assertNotEqual(told[2], 0, name)
            self.assertNotEqual(told[-1], 0, name)
            # At a number this large no two polynomials with numbers as small as these have the same value.
            self.assertEqual(value_at(told, Fraction(100003)), oracle.bracket_at(drawing, Fraction(100003)), name)


class Jones(unittest.TestCase):
    def test_known_ones(self):
        for name, powers in {
            "circle": {0: 1},
            "two circles": {2: -1, -2: -1},
            "four circles": {6: -1, 2: -3, -2: -3, -6: -1},
            "kink": {0: 1},
            "kink, minus": {0: 1},
            "8 kinks": {0: 1},
            "poke": {2: -1, -2: -1},
            "Hopf": {-2: -1, -10: -1},
            "Hopf, minus": {2: -1, 10: -1},
            "trefoil": {-4: 1, -12: 1, -16: -1},
            "trefoil, minus": {4: 1, 12: 1, 16: -1},
            "figure eight": {8: 1, 4: -1, 0: 1, -4: -1, -8: 1},
            "5_1": {-8: 1, -16: 1, -20: -1, -24: 1, -28: -1},
            "5_2": {-4: 1, -8: -1, -12: 2, -16: -1, -20: 1, -24: -1},
            "Borromean": {12: -1, 8: 3, 4: -2, 0: 4, -4: -2, -8: 3, -12: -1},
            "8_18": {16: 1, 12: -4, 8: 6, 4: -7, 0: 9, -4: -7, -8: 6, -12: -4, -16: 1},
            "8_19": {-12: 1, -20: 1, -32: -1},
        }.items():
            with self.subTest(name):
                self.assertEqual(ask_of(NAMED[name], jones(0)), [told_of(powers)])

    def test_by_the_words(self):
        for name, drawing in NAMED.items():
            told = ask_of(drawing, jones(0))[0]
            self.assertEqual(told[0], len(told) - 2, name)
            self.assertEqual(value_at(told, Fraction(100003)), oracle.jones_at(drawing, Fraction(100003)), name)


class Alexander(unittest.TestCase):
    def test_known_ones(self):
        for name, numbers in {
            "circle": [1],
            "two circles": [],
            "four circles": [],
            "kink": [1],
            "kink, minus": [1],
            "8 kinks": [1],
            "kink and circles": [],
            "trefoil and circle": [],
            "poke": [],
            "Hopf": [1, -1],
            "Hopf, minus": [1, -1],
            "Hopf and circles": [],
            "trefoil": [1, -1, 1],
            "trefoil, minus": [1, -1, 1],
            "figure eight": [1, -3, 1],
            "5_1": [1, -1, 1, -1, 1],
            "5_2": [2, -3, 2],
            "Whitehead": [1, -3, 3, -1],
            "Borromean": [1, -4, 6, -4, 1],
            "7_1": [1, -1, 1, -1, 1, -1, 1],
            "8_18": [1, -5, 10, -13, 10, -5, 1],
            "8_19": [1, -1, 0, 1, 0, -1, 1],
            "8_20": [1, -2, 3, -2, 1],
            "kink beside kink": [],
            "Hopf beside trefoil": [],
            "8 kinks in 8 pieces": [],
        }.items():
            with self.subTest(name):
                self.assertEqual(ask_of(NAMED[name], alexander(0)), [[len(numbers)] + numbers])

    def test_by_the_words(self):
        points = [Fraction(t) for t in (2, 3, 5, 7, 11, 101, 10007, 100003, 1000003)]
        for name, (own, row) in NAMED.items():
            told = ask_of((own, row), alexander(0))[0]
            self.assertEqual(told[0], len(told) - 1, name)
            if own > 0 or not row:
                continue
            minors = [oracle.alexander_minor_at(row, t) for t in points]
            values = [sum(number * t ** k for k, number in enumerate(told[1:])) for t in points]
            units = [(sign, power) for sign in (1, -1) for power in range(-9, 10)]
            fitting = [
                (sign, power) for sign, power in units
                if all(value * sign * t ** power == minor for value, t, minor in zip(values, points, minors))
            ]
            self.assertTrue(fitting, name)
            self.assertTrue(told[0] == 0 or told[1] > 0 and told[-1] != 0, name)

    def test_determinants(self):
        for rows in (
            [[7]], [[0]], [[0, 1], [1, 0]], [[0, 0, 2], [0, 3, 0], [5, 0, 0]], [[0, 0, 2], [3, 0, 0], [0, 5, 0]],
            [[1, 2, 3], [4, 5, 6], [7, 8, 10]], [[1, 2], [2, 4]], [[0, 2, 1, 3], [4, 0, -1, 2], [0, 0, 5, 1], [2, 2, 0, 7]],
            [[0, 0, 0, 0, 1], [0, 0, 0, 1, 0], [0, 0, 1, 0, 0], [0, 1, 0, 0, 0], [1, 0, 0, 0, 0]],
            [[0, 0, 0, 1], [0, 1, 0, 0], [0, 0, 1, 0], [1, 0, 0, 0]],
            [[0, 2, 0, 0, 0], [0, 0, 3, 0, 0], [0, 0, 0, 5, 0], [0, 0, 0, 0, 7], [11, 0, 0, 0, 0]],
            [[3, -1, 2, 0, 5], [0, 0, 1, 4, 2], [6, -2, 4, 1, 9], [1, 1, 1, 1, 1], [-7, 3, 0, 2, 8]],
        ):
            kept = [list(row) for row in rows]
            self.assertEqual(determinant(rows), oracle.leibniz_determinant(rows), rows)
            self.assertEqual(rows, kept)


class Colours(unittest.TestCase):
    def test_known_ones(self):
        for name, others, special in (
            ("circle", 1, {}),
            ("four circles", 4, {}),
            ("kink", 1, {}),
            ("kink and circles", 4, {}),
            ("poke", 2, {}),
            ("Hopf", 1, {2: 2}),
            ("Hopf, minus", 1, {2: 2}),
            ("Hopf and circles", 5, {2: 6}),
            ("trefoil", 1, {3: 2}),
            ("trefoil, minus", 1, {3: 2}),
            ("trefoil and circle", 2, {3: 3}),
            ("figure eight", 1, {5: 2}),
            ("5_1", 1, {5: 2}),
            ("5_2", 1, {7: 2}),
            ("7_1", 1, {7: 2}),
            ("Borromean", 1, {2: 3}),
            ("8_18", 1, {3: 3, 5: 2}),
            ("8_19", 1, {3: 2}),
            ("Hopf beside trefoil", 2, {2: 3, 3: 3}),
        ):
            told = []
            for at in (PRIMES[:13], PRIMES[13:]):
                told.extend(ask_of(NAMED[name], *[colours(0, p) for p in at]))
            self.assertEqual(told, [[special.get(p, others)] for p in PRIMES], name)

    def test_by_trying_each(self):
        for name, drawing in NAMED.items():
            for p in (2, 3, 5, 7):
                if p ** (2 * len(drawing[1]) // 5) <= 20000:
                    q = ask_of(drawing, colours(0, p))[0][0]
                    self.assertEqual(p ** q, oracle.count_colourings(drawing, p), (name, p))

    def test_ranks(self):
        for rows, width, p, rank in (
            ([], 0, 2, 0), ([[0]], 1, 3, 0), ([[3]], 1, 3, 0), ([[4]], 1, 3, 1), ([[1, 0], [0, 1]], 2, 2, 2),
            ([[1, 2], [2, 4]], 2, 97, 1), ([[1, 2], [3, 4]], 2, 2, 1), ([[1, 2], [3, 4]], 2, 3, 2),
            ([[0, 0, 1], [0, -1, 0], [0, 5, 5]], 3, 7, 2), ([[0, 0, 1], [0, -1, 0], [2, 5, 5]], 3, 7, 3),
        ):
            kept = [list(row) for row in rows]
            self.assertEqual(rank_by(rows, width, p), rank, rows)
            self.assertEqual(rows, kept)

    def test_what_is_no_prime_up_to_100(self):
        wrong = [p for p in range(130) if p not in PRIMES] + [9409, 65537, 4294967291, LARGEST]
        for at in range(0, len(wrong), 50):
            part = wrong[at:at + 50]
            self.assertEqual(ask_of(TREFOIL, *[colours(0, p) for p in part]), [[-1]] * len(part))
        self.assertEqual(ask_of(CIRCLE, colours(0, 101), colours(0, 97), colours(0, 2)), [[-1], [1], [1]])


class PlacesThatHaveNoDrawing(unittest.TestCase):
    def test_each_call(self):
        for place in (0, 5, 6, LARGEST):
            told = ask(
                put(2, *TREFOIL), bracket(place), jones(place), alexander(place), colours(place, 3), colours(place, 4),
            )
            self.assertEqual(told, [[0]] + [[-1]] * 5)


if __name__ == "__main__":
    unittest.main()

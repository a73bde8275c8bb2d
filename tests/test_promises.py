"""Over many drawings: what undoing, mirroring, turning, beside, join, flip and open do to what is told (promises 2 to 4)."""

import unittest
from random import Random

from tests import oracle
from tests.growing import all_drawings, many, mixed, size
from tests.helping import (
    FIGURE_EIGHT, HOPF, HOPF_MINUS, KINK, NAMED, TREFOIL, TREFOIL_MINUS, alexander, ask, bracket, braid, colours, count,
    flip, get, jones, join, mirror, open_at, plain, put, put_beside, renumbered, same, sum_of, told_as, turn, unkink,
    unpoke, writhe,
)

PRIMES_ASKED = (2, 3, 5, 7, 97)
CIRCLE_VALUE = {2: -1, -2: -1}
DRAWINGS = list(NAMED.values()) + all_drawings(1) + all_drawings(2) + many(Random(61), 150)


def kept_by_undoing(place):
    """What doesn't change when a kink or a poke is undone."""
    return [jones(place), alexander(place), count(place, 2)] + [colours(place, p) for p in PRIMES_ASKED]


def powers(told):
    """What bracket or jones told as a dict from powers to numbers that aren't 0."""
    return {told[1] + k: number for k, number in enumerate(told[2:]) if number}


def times(one, other):
    product = {}
    for a, x in one.items():
        for b, y in other.items():
            product[a + b] = product.get(a + b, 0) + x * y
    return {power: number for power, number in product.items() if number}


def less(one, other):
    difference = {power: one.get(power, 0) - other.get(power, 0) for power in set(one) | set(other)}
    return {power: number for power, number in difference.items() if number}


def inverted(polynomial):
    return {-power: number for power, number in polynomial.items()}


def pairs(drawings, lot):
    """Pairs of drawings that are small enough together."""
    found = []
    while len(found) < 150:
        one = lot.choice(drawings)
        other = lot.choice(drawings)
        if size(one) + size(other) <= 8 and one[0] + other[0] <= 4:
            found.append((one, other))
    return found


class Undone(unittest.TestCase):
    def test_kinks(self):
        seen = 0
        for drawing in DRAWINGS:
            for x in oracle.kinks(drawing):
                told = ask(put(0, *drawing), unkink(1, 0, x), *kept_by_undoing(0), *kept_by_undoing(1))
                if told[1] == [0]:
                    seen += 1
                    self.assertEqual(told[2:10], told[10:], (drawing, x))
        self.assertGreater(seen, 100)

    def test_pokes(self):
        seen = 0
        for drawing in DRAWINGS:
            for gone in oracle.pokes(drawing):
                asked = [kept_by_undoing(place) + [writhe(place)] for place in range(2)]
                told = ask(put(0, *drawing), unpoke(1, 0, *gone), *asked[0], *asked[1])
                if told[1] == [0]:
                    seen += 1
                    self.assertEqual(told[2:11], told[11:], (drawing, gone))
        self.assertGreater(seen, 100)

    def test_as_far_as_it_goes(self):
        for drawing in DRAWINGS:
            told = ask(put(0, *drawing), plain(1, 0), *kept_by_undoing(0), *kept_by_undoing(1))
            if told[1] != [-2]:
                self.assertEqual(told[2:10], told[10:], drawing)


class Mirrored(unittest.TestCase):
    def test_a_becomes_one_over_a(self):
        for drawing in DRAWINGS:
            told = ask(put(3, *drawing), mirror(2, 3), bracket(3), bracket(2), jones(3), jones(2))
            self.assertEqual(powers(told[3]), inverted(powers(told[2])), drawing)
            self.assertEqual(powers(told[5]), inverted(powers(told[4])), drawing)

    def test_signs_change_and_the_rest_stays(self):
        for drawing in DRAWINGS:
            asked = [[alexander(place), count(place, 2), count(place, 3), count(place, 4), count(place, 5)]
                     + [colours(place, p) for p in PRIMES_ASKED] for place in range(2)]
            told = ask(put(0, *drawing), mirror(1, 0), writhe(0), writhe(1), *asked[0], *asked[1])
            self.assertEqual(told[2][1], -told[3][1])
            self.assertEqual(told[4:14], told[14:], drawing)


class Turned(unittest.TestCase):
    def test_nothing_changes(self):
        for drawing in DRAWINGS:
            asked = [kept_by_undoing(place) + [bracket(place), writhe(place), sum_of(place, 0, 0)]
                     + [count(place, what) for what in range(6)] for place in range(2)]
            told = ask(put(0, *drawing), turn(1, 0), *asked[0], *asked[1])
            self.assertEqual(told[2:19], told[19:], drawing)


class Beside(unittest.TestCase):
    def test_polynomials_multiply(self):
        for one, other in pairs(DRAWINGS, Random(62)):
            told = ask(put(0, *one), put(1, *other), put_beside(2, 0, 1), *[bracket(p) for p in range(3)],
                       *[jones(p) for p in range(3)])
            for at in (3, 6):
                # Two drawings that are apart have one circle more than the two of them joined.
                product = times(times(powers(told[at]), powers(told[at + 1])), CIRCLE_VALUE)
                self.assertEqual(powers(told[at + 2]), product, (one, other))

    def test_the_rest(self):
        for one, other in pairs(DRAWINGS, Random(63)):
            asked = [[writhe(p), alexander(p)] + [count(p, what) for what in range(6)] + [colours(p, q) for q in PRIMES_ASKED]
                     for p in range(3)]
            told = ask(put(0, *one), put(1, *other), put_beside(2, 0, 1), *asked[0], *asked[1], *asked[2])
            first, second, both = told[3:16], told[16:29], told[29:]
            self.assertEqual(both[1], [0])
            for k in (0, *range(2, 13)):
                self.assertEqual(both[k][-1], first[k][-1] + second[k][-1], (one, other, k))


class Joined(unittest.TestCase):
    def asked(self, drawings, lot, *calls):
        """For pairs of drawings joined by lot the answers at the first, the second and what they're joined to."""
        for one, other in pairs([drawing for drawing in drawings if drawing[1]], lot):
            call = join(2, 0, lot.randrange(2 * size(one)), 1, lot.randrange(2 * size(other)))
            told = ask(put(0, *one), put(1, *other), call, *[ask_at(p) for ask_at in calls for p in range(3)])
            self.assertEqual(told[2], [0])
            yield [told[k:k + 3] for k in range(3, len(told), 3)]

    def test_polynomials_multiply(self):
        for brackets, jones_told in self.asked(DRAWINGS, Random(64), bracket, jones):
            for first, second, both in (brackets, jones_told):
                self.assertEqual(powers(both), times(powers(first), powers(second)))

    def test_alexander_s_multiply(self):
        some = [TREFOIL, TREFOIL_MINUS, FIGURE_EIGHT, HOPF, HOPF_MINUS, braid(2, [1] * 4), braid(2, [1] * 5), KINK]
        for told in self.asked(some + DRAWINGS, Random(65), alexander):
            first, second, both = [dict(enumerate(numbers[1:])) for numbers in told[0]]
            self.assertEqual({k: x for k, x in both.items() if x}, times(first, second))

    def test_the_rest(self):
        def strands(place):
            return count(place, 2)

        def threes(place):
            return colours(place, 3)

        for told in self.asked(DRAWINGS, Random(66), writhe, strands, threes):
            for (first, second, both), fewer in zip(told, (0, 1, 1)):
                self.assertEqual(both[-1], first[-1] + second[-1] - fewer)


class FlippedAndOpened(unittest.TestCase):
    def test_the_rule(self):
        seen = 0
        for drawing in DRAWINGS:
            for x, five in enumerate(oracle.fives(drawing[1])):
                if five[4] == 0 and oracle.opened(drawing, x)[0] <= 4:
                    told = ask(put(0, *drawing), flip(1, 0, x), open_at(2, 0, x), jones(0), jones(1), jones(2))
                    without, flipped, opened = [powers(answer) for answer in told[3:]]
                    left = less(times({4: 1}, without), times({-4: 1}, flipped))
                    self.assertEqual(left, times({-2: 1, 2: -1}, opened), (drawing, x))
                    seen += 1
        self.assertGreater(seen, 200)


class Numbered(unittest.TestCase):
    """What is made of a drawing whose crossings and arcs are numbered otherwise is the same drawing."""

    def check(self, drawing, numbered, call, moved):
        """call makes something at place 4 of place 0, moved at place 5 of place 1."""
        told = ask(put(0, *drawing), put(1, *numbered), call, moved, same(4, 5), get(4), get(5))
        self.assertEqual(told[2], told[3], (drawing, numbered, call, moved))
        if told[2] == [0]:
            self.assertEqual(told[4], [1], (drawing, numbered, call, moved))
            made = [(answer[1], answer[2:]) for answer in told[5:]]
            self.assertTrue(oracle.same(*made))

    def setUp(self):
        lot = Random(67)
        self.cases = []
        for drawing in DRAWINGS:
            n = size(drawing)
            order = lot.sample(range(n), n)
            arcs = lot.sample(range(2 * n), 2 * n)
            self.cases.append((drawing, renumbered(drawing, order, arcs), order, arcs))

    def test_mirror_and_turn(self):
        for drawing, numbered, order, arcs in self.cases:
            self.check(drawing, numbered, mirror(4, 0), mirror(5, 1))
            self.check(drawing, numbered, turn(4, 0), turn(5, 1))

    def test_flip_open_and_unkink(self):
        for drawing, numbered, order, arcs in self.cases:
            for new, old in enumerate(order):
                self.check(drawing, numbered, flip(4, 0, old), flip(5, 1, new))
                self.check(drawing, numbered, open_at(4, 0, old), open_at(5, 1, new))
                self.check(drawing, numbered, unkink(4, 0, old), unkink(5, 1, new))

    def test_unpoke(self):
        for drawing, numbered, order, arcs in self.cases:
            for new, old in enumerate(order):
                for new_other, old_other in enumerate(order[:new + 1]):
                    call = unpoke(4, 0, old, old_other)
                    self.check(drawing, numbered, call, unpoke(5, 1, new, new_other))

    def test_plain(self):
        for drawing, numbered, order, arcs in self.cases:
            told = ask(put(0, *drawing), put(1, *numbered), plain(4, 0), plain(5, 1), same(4, 5))
            self.assertEqual(told[2] == [-2], told[3] == [-2])
            self.assertEqual(told[4], [-1] if told[2] == [-2] else [1])

    def test_beside_and_join(self):
        lot = Random(68)
        for drawing, numbered, order, arcs in self.cases:
            other = lot.choice([KINK, HOPF, TREFOIL])
            told = ask(put(0, *drawing), put(1, *numbered), put(2, *other), put(3, *mixed(other, lot)),
                       put_beside(4, 0, 2), put_beside(5, 3, 1), same(4, 5))
            self.assertEqual(told[6], [1] if told[4] == [0] else [-1])
            if arcs:
                i = lot.randrange(len(arcs))
                told = ask(put(0, *drawing), put(1, *numbered), put(2, *other), join(4, 0, i, 2, 1),
                           join(5, 2, 1, 1, arcs[i]), same(4, 5), get(0))
                self.assertEqual(told[5], [1] if told[3] == [0] else [-1])
                self.assertEqual(told[6], told_as(drawing))


if __name__ == "__main__":
    unittest.main()

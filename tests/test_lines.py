"""Whole lines of up to 60 calls by lot, held against a second book that keeps to the document's words."""

import unittest
from random import Random

from knotbookdesk.book import answers
from tests import oracle
from tests.growing import many, size
from tests.helping import (
    KINK, LARGEST, NAMED, TREFOIL, circles, count, flip, get, join, mirror, open_at, plain, put, put_beside, same, split,
    strand, told_as, turn, unkink, unpoke, writhe,
)


class SecondBook:
    """Six places, None where empty, and calls that answer as the document says."""

    def __init__(self):
        self.places = [None] * 6

    def at(self, place):
        return self.places[place] if place < 6 else None

    def answer(self, call):
        number, numbers = call[0], call[1:]
        if number == 1:
            return self.put(numbers[0], numbers[1], numbers[3:])
        if number == 21:
            one, other = self.at(numbers[0]), self.at(numbers[1])
            return [-1] if one is None or other is None else [int(oracle.same(one, other))]
        if number >= 12:
            return self.make(number, numbers)
        drawing = self.at(numbers[0])
        return [-1] if drawing is None else self.tell(number, drawing, numbers[1:])

    def put(self, place, own, row):
        answer = oracle.put_answer(own, row) if place < 6 else [-1]
        if answer == [0]:
            self.places[place] = (own, list(row))
        return answer

    def tell(self, number, drawing, numbers):
        own, row = drawing
        n = size(drawing)
        if number == 2:
            return told_as(drawing)
        if number == 3:
            counts = [n, own, len(set(oracle.strands(row))) + own, oracle.pieces(row) + own, oracle.faces(row),
                      oracle.circles_of(drawing, ["along"] * n)]
            return [counts[numbers[0]]] if numbers[0] < 6 else [-1]
        if number == 4:
            return [oracle.strands(row)[numbers[0]]] if numbers[0] < 2 * n else [-1]
        if number == 6:
            return [0, oracle.signs(row)]
        return [oracle.circles_of(drawing, oracle.state_ways(row, numbers[0]))]

    def make(self, number, numbers):
        d, k, rest = numbers[0], self.at(numbers[1]), numbers[2:]
        if d > 5 or k is None:
            return [-1]
        answer, made = self.made(number, k, rest)
        if made is not None and (size(made) > 8 or made[0] > 4):
            return [-2]
        if made is not None:
            self.places[d] = made
        return answer

    def made(self, number, k, rest):
        """The answer, and the drawing that is made, or None."""
        if number in (14, 15, 16, 17) and max(rest) >= size(k):
            return [-1], None
        if number == 16 and rest[0] not in oracle.kinks(k) or number == 17 and tuple(sorted(rest)) not in oracle.pokes(k):
            return [-3], None
        if number == 18:
            left, done = oracle.plain(k)
            return [len(done)], left
        if number == 19:
            other = self.at(rest[0])
            return ([-1], None) if other is None else ([0], oracle.beside(k, other))
        if number == 20:
            other = self.at(rest[1])
            if other is None or rest[0] >= 2 * size(k) or rest[2] >= 2 * size(other):
                return [-1], None
            return [0], oracle.joined(k, rest[0], other, rest[2])
        makers = {12: oracle.mirrored, 13: oracle.turned, 14: oracle.flipped, 15: oracle.opened}
        return [0], makers[number](k, *rest) if number in makers else oracle.undone(k, rest)


def call_by_lot(lot, drawings):
    def place():
        return lot.choice([0, 1, 2, 3, 4, 5] * 6 + [6, LARGEST])

    def small(most):
        return lot.choice([lot.randrange(most)] * 20 + [most, LARGEST])

    return lot.choice([
        lambda: put(place(), *lot.choice(drawings)),
        lambda: put(place(), lot.randrange(3), KINK[1] + [lot.randrange(4) for k in range(5)]),
        lambda: get(place()),
        lambda: count(place(), small(6)),
        lambda: strand(place(), small(6)),
        lambda: writhe(place()),
        lambda: circles(place(), lot.randrange(300)),
        lambda: mirror(place(), place()),
        lambda: turn(place(), place()),
        lambda: flip(place(), place(), small(4)),
        lambda: open_at(place(), place(), small(4)),
        lambda: unkink(place(), place(), small(4)),
        lambda: unpoke(place(), place(), small(3), small(4)),
        lambda: plain(place(), place()),
        lambda: put_beside(place(), place(), place()),
        lambda: join(place(), place(), small(5), place(), small(5)),
        lambda: same(place(), place()),
    ])()


class Lines(unittest.TestCase):
    def test_many_lines(self):
        lot = Random(71)
        drawings = [drawing for drawing in many(lot, 60) if size(drawing) < 6] + [KINK, TREFOIL, NAMED["poke"]]
        drawings += [(4, KINK[1]), (3, NAMED["poke"][1]), (4, NAMED["poke"][1]), (4, NAMED["two kinks"][1])] * 3
        seen = set()
        for line in range(600):
            calls = [put(p, *lot.choice(drawings)) for p in range(4)]
            calls += [call_by_lot(lot, drawings) for k in range(lot.randrange(40, 57))]
            book = SecondBook()
            expected = [book.answer(call) for call in calls]
            told = split(answers([number for call in calls for number in call]))
            for call, answer, own in zip(calls, told, expected):
                self.assertEqual(answer, own, (calls, call))
            seen.update((call[0], min(answer[0], 1)) for call, answer in zip(calls, told))
        # Each call was taken and, each by all its numbers, refused.
        for number, refusals in {12: [-1], 13: [-1], 14: [-1], 15: [-1, -2], 16: [-1, -2, -3], 17: [-1, -2, -3],
                                 18: [-1, -2], 19: [-1, -2], 20: [-1, -2], 21: [-1]}.items():
            self.assertTrue({(number, 0), (number, 1)} & seen, number)
            self.assertEqual(sorted(r for n, r in seen if n == number and r < 0), sorted(refusals), number)


if __name__ == "__main__":
    unittest.main()

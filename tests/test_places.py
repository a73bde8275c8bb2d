"""The places of mirror to same: where what is made goes, and that what's refused changes nothing (promise 5)."""

import unittest
from itertools import product

from tests import oracle
from tests.growing import with_kink
from tests.helping import (
    FIGURE_EIGHT, HOPF, KINK, LARGEST, NAMED, TREFOIL, ask, flip, get, join, mirror, open_at, plain, put, put_beside, same,
    told_as, turn, unkink, unpoke,
)

# 0 and 1 are a poke, 2 is a kink; two of it have 6 crossings and 2 circles.
FIRST = (1, with_kink(NAMED["poke"], 0, True, 0)[1])
SECOND = (2, HOPF[1])

# Each call that makes something, and what it makes of the drawings at k and at l.
MAKERS = {
    "mirror": (lambda d, k, at: mirror(d, k), lambda one, other: oracle.mirrored(one)),
    "turn": (lambda d, k, at: turn(d, k), lambda one, other: oracle.turned(one)),
    "flip": (lambda d, k, at: flip(d, k, 1), lambda one, other: oracle.flipped(one, 1)),
    "open": (lambda d, k, at: open_at(d, k, 1), lambda one, other: oracle.opened(one, 1)),
    "unkink": (lambda d, k, at: unkink(d, k, 2), lambda one, other: oracle.undone(one, (2,))),
    "unpoke": (lambda d, k, at: unpoke(d, k, 1, 0), lambda one, other: oracle.undone(one, (1, 0))),
    "plain": (lambda d, k, at: plain(d, k), lambda one, other: oracle.plain(one)[0]),
    "beside": (lambda d, k, at: put_beside(d, k, at), oracle.beside),
    "join": (lambda d, k, at: join(d, k, 2, at, 3), lambda one, other: oracle.joined(one, 2, other, 3)),
}

FILLED = {0: (4, NAMED["8 kinks"][1]), 1: TREFOIL, 2: (4, KINK[1]), 3: (3, NAMED["poke"][1]), 5: (4, [])}

NO_PLACES = (6, 7, 255, LARGEST)
EMPTY_OR_NONE = (4,) + NO_PLACES


def not_there():
    """Calls that are refused by -1."""
    calls = []
    for wrong in EMPTY_OR_NONE:
        calls += [mirror(0, wrong), turn(1, wrong), flip(2, wrong, 0), open_at(3, wrong, 0), unkink(4, wrong, 0)]
        calls += [unpoke(5, wrong, 0, 1), unpoke(5, wrong, 0, 0), plain(0, wrong), put_beside(1, wrong, 1)]
        calls += [put_beside(1, 1, wrong), put_beside(1, wrong, wrong), put_beside(4, 0, wrong)]
        calls += [join(0, wrong, 0, 1, 0), join(0, 1, 0, wrong, 0), join(0, wrong, 0, wrong, 0), join(0, 0, 0, wrong, 0)]
        calls += [same(wrong, 1), same(1, wrong), same(wrong, wrong), flip(0, wrong, LARGEST), mirror(wrong, wrong)]
    for wrong in NO_PLACES:
        calls += [mirror(wrong, 1), turn(wrong, 1), flip(wrong, 1, 0), open_at(wrong, 1, 0), plain(wrong, 1)]
        calls += [unkink(wrong, 2, 0), unpoke(wrong, 3, 0, 1), put_beside(wrong, 1, 1), join(wrong, 1, 0, 1, 0)]
        # Were the place there, these would be refused by -3 or -2.
        calls += [unkink(wrong, 1, 0), unpoke(wrong, 1, 0, 1), unpoke(wrong, 3, 1, 1), open_at(wrong, 2, 0)]
        calls += [plain(wrong, 2), put_beside(wrong, 0, 0), join(wrong, 0, 0, 0, 0)]
    for k, n in ((0, 8), (1, 3), (2, 1), (3, 2), (5, 0)):
        for wrong in (n, n + 1, LARGEST):
            calls += [flip(4, k, wrong), open_at(4, k, wrong), unkink(4, k, wrong), flip(k, k, wrong)]
            calls += [unpoke(4, k, wrong, wrong), unpoke(4, k, 0, wrong), unpoke(4, k, wrong, 0)]
        for wrong in (2 * n, 2 * n + 1, LARGEST):
            # Joined to place 0 they would have too many crossings as well.
            calls += [join(4, k, wrong, 1, 0), join(4, 1, 0, k, wrong), join(4, k, wrong, k, wrong)]
            calls += [join(4, k, wrong, 0, 0), join(4, 0, 0, k, wrong)]
    return calls


def nothing_to_undo():
    """Calls that are refused by -3."""
    calls = [unkink(d, 1, x) for d in range(6) for x in range(3)] + [unkink(4, 3, 0), unkink(3, 3, 1)]
    calls += [unpoke(4, 1, x, y) for x, y in product(range(3), repeat=2)]
    calls += [unpoke(3, 3, 0, 0), unpoke(4, 3, 1, 1), unpoke(2, 2, 0, 0), unpoke(1, 0, 7, 7)]
    return calls


def too_large():
    """Calls that are refused by -2."""
    calls = []
    for d in range(6):
        calls += [open_at(d, 2, 0), open_at(d, 0, 0), unkink(d, 2, 0), unpoke(d, 3, 0, 1), unpoke(d, 3, 1, 0)]
        calls += [plain(d, 0), plain(d, 2), plain(d, 3)]
        calls += [put_beside(d, k, at) for k in range(6) for at in range(6) if 4 not in (k, at) and {k, at} - {1}
                  and (k, at) not in ((1, 2), (2, 1), (1, 3), (3, 1), (1, 5), (5, 1))]
        calls += [join(d, 0, 15, 1, 5), join(d, 1, 0, 0, 15), join(d, 2, 1, 2, 1), join(d, 2, 0, 3, 3), join(d, 0, 0, 0, 0)]
    return calls


class WhereItGoes(unittest.TestCase):
    def check(self, name, d, k, at, others):
        """The call makes what it is to make, and all other places are as they were."""
        call, make = MAKERS[name]
        held = dict(others)
        held[at] = SECOND
        held[k] = FIRST
        told = ask(*[put(place, *drawing) for place, drawing in held.items()], call(d, k, at), *[get(p) for p in range(6)])
        made = make(held[k], held[at])
        held[d] = made
        self.assertEqual(told[-7], [len(oracle.plain(FIRST)[1]) if name == "plain" else 0], (name, d, k, at))
        self.assertEqual(told[-6:], [told_as(held[p]) if p in held else [-1] for p in range(6)], (name, d, k, at))

    def test_places_that_are_empty(self):
        for name in MAKERS:
            for d, k, at in product(range(6), repeat=3):
                self.check(name, d, k, at, {})

    def test_places_that_have_a_drawing(self):
        others = {place: (place % 4, FIGURE_EIGHT[1]) for place in range(6)}
        for name in MAKERS:
            for d, k, at in product(range(6), repeat=3):
                self.check(name, d, k, at, others)

    def test_one_call_after_another_on_one_place(self):
        told = ask(put(0, *TREFOIL), mirror(0, 0), turn(0, 0), flip(0, 0, 2), open_at(0, 0, 1), plain(0, 0), get(0))
        drawing = oracle.flipped(oracle.turned(oracle.mirrored(TREFOIL)), 2)
        left, done = oracle.plain(oracle.opened(drawing, 1))
        self.assertEqual(told, [[0]] * 5 + [[len(done)], told_as(left)])

    def test_what_was_made_does_not_change_with_its_source(self):
        told = ask(put(0, *TREFOIL), mirror(1, 0), put_beside(2, 0, 1), flip(0, 0, 0), mirror(1, 1), get(2), get(0), get(1))
        self.assertEqual(told[5:], [
            told_as(oracle.beside(TREFOIL, oracle.mirrored(TREFOIL))), told_as(oracle.flipped(TREFOIL, 0)), told_as(TREFOIL),
        ])


class Refused(unittest.TestCase):
    def check(self, calls, answer):
        puts = [put(place, *drawing) for place, drawing in FILLED.items()]
        gets = [get(place) for place in range(6)]
        held = [told_as(FILLED[place]) if place in FILLED else [-1] for place in range(6)]
        for call in calls:
            told = ask(*puts, call, *gets)
            self.assertEqual(told, [[0]] * len(puts) + [[answer]] + held, call)
        for at in range(0, len(calls), 49):
            part = calls[at:at + 49]
            told = ask(*puts, *part, *gets)
            self.assertEqual(told, [[0]] * len(puts) + [[answer]] * len(part) + held)

    def test_what_is_not_there(self):
        self.check(not_there(), -1)

    def test_what_is_no_kink_or_no_poke(self):
        self.check(nothing_to_undo(), -3)

    def test_too_many_crossings_or_circles(self):
        self.check(too_large(), -2)

    def test_with_all_places_empty(self):
        for call in nothing_to_undo() + too_large():
            self.assertEqual(ask(call, *[get(place) for place in range(6)]), [[-1]] * 7)


if __name__ == "__main__":
    unittest.main()

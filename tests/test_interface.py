"""answers itself: its forms, what is refused changes nothing (promise 5), nothing is kept or changed."""

import contextlib
import io
import unittest

import knotbookdesk.book
from knotbookdesk.book import answers
from tests.helping import (
    HOPF, KINK, LARGEST, NAMED, TREFOIL, TREFOIL_MINUS, alexander, ask, bracket, circles, colours, count, flip, get, join,
    jones, mirror, open_at, plain, put, put_beside, same, split, strand, sum_of, turn, unkink, unpoke, writhe,
)

REFUSED = [
    (put(6, 1, []), [-1]),
    (put(LARGEST, 1, []), [-1]),
    (put(0, 0, []), [-1]),
    (put(1, 5, []), [-1]),
    (put(2, LARGEST, HOPF[1]), [-1]),
    (put(3, 1, HOPF[1][:-1]), [-1]),
    (put(4, 1, [0] * 64), [-1]),
    (put(5, 1, [LARGEST] * 64), [-1]),
    (put(0, 1, KINK[1] * 9), [-1]),
    (put(1, 1, [0, 1, 1, 0, 2]), [-1]),
    (put(2, 1, [0, 1, 2, 0, 0]), [-1]),
    (put(0, 1, [0, 0, 0, 0, 0]), [-6, 0]),
    (put(1, 1, [0, 1, 2, 3, 0, 3, 1, 1, 0, 0]), [-6, 1]),
    (put(2, 1, KINK[1] + [2, 3, 3, 3, 0]), [-6, 2]),
    (put(0, 1, [0, 0, 1, 1, 0]), [-8]),
    (put(5, 0, HOPF[1][:-1] + [1]), [-8]),
    (get(6), [-1]),
    (get(3), [-1]),
    (count(1, 6), [-1]),
    (count(LARGEST, 0), [-1]),
    (strand(1, 6), [-1]),
    (strand(0, 0), [-1]),
    (sum_of(2, 2, 0), [-1]),
    (sum_of(2, 0, LARGEST), [-1]),
    (writhe(4), [-1]),
    (circles(3, 0), [-1]),
    (bracket(3), [-1]),
    (jones(LARGEST), [-1]),
    (alexander(4), [-1]),
    (colours(1, 1), [-1]),
    (colours(1, 91), [-1]),
    (colours(1, 101), [-1]),
    (colours(3, 3), [-1]),
    (mirror(6, 1), [-1]),
    (turn(0, 3), [-1]),
    (flip(0, 1, 3), [-1]),
    (open_at(1, 0, 0), [-1]),
    (open_at(0, 5, 3), [-1]),
    (unkink(LARGEST, 1, 0), [-1]),
    (unkink(0, 1, 2), [-3]),
    (unpoke(2, 2, 0, 1), [-3]),
    (unpoke(2, 2, 1, 1), [-3]),
    (plain(1, 4), [-1]),
    (put_beside(3, 0, 5), [-2]),
    (put_beside(0, 5, 5), [-2]),
    (put_beside(0, 5, 3), [-1]),
    (join(0, 1, 6, 2, 0), [-1]),
    (join(3, 5, 0, 5, 5), [-2]),
    (same(1, 3), [-1]),
    (same(6, 1), [-1]),
]

FILLED = [put(0, 2, []), put(1, *TREFOIL), put(2, *HOPF), put(5, 3, TREFOIL_MINUS[1])]
HELD = [[0, 2], [3, 0] + TREFOIL[1], [2, 0] + HOPF[1], [-1], [-1], [3, 3] + TREFOIL_MINUS[1]]
ASKING = [
    put(0, *TREFOIL), get(0), count(0, 4), strand(0, 5), sum_of(0, 0, 0), writhe(0), circles(0, 5), bracket(0), jones(0),
    alexander(0), colours(0, 3), same(0, 0),
]
MAKING = [
    mirror(1, 0), turn(1, 1), flip(2, 0, 1), plain(3, 2), open_at(2, 0, 1), put(4, *KINK), join(5, 2, 0, 4, 1),
    unkink(5, 5, 2), put_beside(4, 0, 4), same(5, 2), put(3, *NAMED["poke"]), unpoke(3, 3, 0, 1), get(3), get(4), get(5),
]
EACH_CALL = ASKING + MAKING


def line_of(calls):
    return [number for call in calls for number in call]


class Refusals(unittest.TestCase):
    def test_what_is_refused_changes_nothing(self):
        for call, answer in REFUSED:
            with self.subTest(call):
                told = ask(*FILLED, call, *[get(place) for place in range(6)])
                self.assertEqual(told, [[0]] * 4 + [answer] + HELD)

    def test_what_is_refused_leaves_empty_places_empty(self):
        for call, answer in REFUSED:
            with self.subTest(call):
                told = ask(call, *[get(place) for place in range(6)])
                self.assertEqual(told[1:], [[-1]] * 6)

    def test_all_refusals_in_one_line(self):
        told = ask(*FILLED, *[call for call, answer in REFUSED], *[get(place) for place in range(6)])
        self.assertEqual(len(told), 60)
        self.assertEqual(told, [[0]] * 4 + [answer for call, answer in REFUSED] + HELD)

    def test_what_asks_changes_nothing(self):
        told = ask(*ASKING, *[get(place) for place in range(6)])
        self.assertEqual(told[-6:], [[3, 0] + TREFOIL[1]] + [[-1]] * 5)


class Forms(unittest.TestCase):
    def test_the_flat_answers(self):
        self.assertEqual(answers(line_of(ASKING)), (
            [1, 0] + [17, 3, 0] + TREFOIL[1] + [1, 5] + [1, 0] + [2, 0, 3] + [2, 0, 3] + [1, 2]
            + [15, 13, -7, 1, 0, 0, 0, -1, 0, 0, 0, 0, 0, 0, 0, -1] + [15, 13, -16, -1, 0, 0, 0, 1, 0, 0, 0, 0, 0, 0, 0, 1]
            + [4, 3, 1, -1, 1] + [1, 2] + [1, 1]
        ))

    def test_the_flat_answers_of_what_makes(self):
        opened = [0, 1, 3, 2, 0, 2, 3, 1, 0, 0]
        self.assertEqual(answers(put(0, *TREFOIL) + line_of(MAKING)), (
            [1, 0] + [1, 0] + [1, 0] + [1, 0] + [1, 2] + [1, 0] + [1, 0] + [1, 0] + [1, 0] + [1, 0] + [1, 1] + [1, 0] + [1, 0]
            + [2, 0, 2] + [22, 4, 0] + TREFOIL[1] + [6, 7, 7, 6, 0] + [12, 2, 0] + opened
        ))

    def test_the_numbers_of_the_calls(self):
        called = [call[0] for call in EACH_CALL]
        self.assertEqual(sorted(set(called)), list(range(1, 22)))

    def test_refusals(self):
        self.assertEqual(answers(put(0, 0, [])), [1, -1])
        self.assertEqual(answers(put(0, 0, [0, 0, 1, 1, 0])), [1, -8])
        self.assertEqual(answers(put(0, 0, KINK[1] + [3, 3, 3, 3, 0])), [2, -6, 2])
        self.assertEqual(answers(put(0, 2, []) + alexander(0)), [1, 0, 1, 0])

    def test_sixty_calls(self):
        calls = (ASKING + [put(1, *NAMED["8_18"]), bracket(1), jones(1)]) * 4
        self.assertEqual(len(calls), 60)
        told = split(answers(line_of(calls)))
        self.assertEqual(told, told[:15] * 4)

    def test_the_longest_rows(self):
        told = ask(*[put(k % 6, 1, [k % 4] * 64) for k in range(59)], get(0))
        self.assertEqual(told, [[-1]] * 60)

    def test_whole_numbers_in_a_list(self):
        told = answers(line_of(EACH_CALL + [call for call, answer in REFUSED]))
        self.assertIs(type(told), list)
        self.assertEqual({type(number) for number in told}, {int})


class NothingKept(unittest.TestCase):
    def test_what_is_handed_in_is_not_changed(self):
        for calls in (EACH_CALL, FILLED + [call for call, answer in REFUSED]):
            line = line_of(calls)
            kept = list(line)
            answers(line)
            self.assertEqual(line, kept)

    def test_what_is_handed_in_later_does_not_reach_what_was_put(self):
        line = put(0, *TREFOIL) + get(0)
        first = answers(line)
        line[4] = 5
        self.assertEqual(answers(put(0, *TREFOIL) + get(0)), first)

    def test_the_second_time_as_the_first(self):
        for calls in (EACH_CALL, FILLED + [call for call, answer in REFUSED]):
            line = line_of(calls)
            self.assertEqual(answers(line), answers(line))

    def test_every_line_begins_with_empty_places(self):
        answers(line_of([put(place, 1, []) for place in range(6)]))
        self.assertEqual(ask(*[get(place) for place in range(6)]), [[-1]] * 6)

    def test_what_is_given_back_is_new_each_time(self):
        line = put(0, *TREFOIL) + get(0)
        first = answers(line)
        kept = list(first)
        first.clear()
        self.assertEqual(answers(line), kept)

    def test_nothing_is_printed(self):
        shown = io.StringIO()
        with contextlib.redirect_stdout(shown), contextlib.redirect_stderr(shown):
            knotbookdesk.book.answers(line_of(EACH_CALL + [call for call, answer in REFUSED]))
        self.assertEqual(shown.getvalue(), "")


if __name__ == "__main__":
    unittest.main()

"""Promise 6 for then, back, over, place and same: the first told that holds counts, and nothing has changed."""

import unittest

from editslots.slots import answers
from tests.line import DROP, KEEP, LARGEST, PUT, back, over, place, readings, run, same, set_, then

ABOVE = (8, 9, 255, 256, LARGEST)
EMPTY = 6

# Slots 0 to 5 and 7 have edits, slot 6 is empty.
FILL = [
    set_(0, [KEEP, 1, DROP, 1, PUT, 2], [1, 2]),
    set_(1, [KEEP, 3, PUT, 1], [3]),
    set_(2, []),
    set_(3, [PUT, 600], [4] * 600),
    set_(4, [PUT, 425], [5] * 425),
    set_(5, [KEEP, 1024]),
    set_(7, [KEEP, 1, DROP, 1], []),
]
DONE = len(FILL) + 24


class Refusals(unittest.TestCase):
    def assert_refused(self, number, call):
        given = run(*FILL, *readings(), call, *readings())
        self.assertEqual(given[DONE], [number], call)
        self.assertEqual(given[DONE + 1:], given[len(FILL):DONE], call)


class Slots(Refusals):
    def reads_of(self, i):
        """Calls that read slot i and would be done, if it had the edit that slot 0 or 2 has."""
        return [then(i, 1, 0), then(2, i, 0), back(i, 0, [1, 2]), over(i, 7, 0, 0), over(7, i, 0, 0), place(i, 0, 0),
                same(i, 0), same(0, i), then(i, i, 0), over(i, i, 0, 0), same(i, i), then(i, 1, i), then(1, i, i),
                back(i, i, [1, 2]), over(i, 7, 0, i), over(7, i, 0, i)]

    def test_a_slot_above_7_is_read(self):
        for i in ABOVE:
            for call in self.reads_of(i):
                self.assert_refused(-1, call)

    def test_an_empty_slot_is_read(self):
        for call in self.reads_of(EMPTY):
            self.assert_refused(-1, call)

    def test_a_slot_above_7_is_written(self):
        for k in ABOVE:
            for call in (then(0, 1, k), back(0, k, [1, 2]), over(0, 7, 0, k)):
                self.assert_refused(-1, call)

    def test_the_same_calls_are_done_with_slots_that_are_there(self):
        for call in (then(0, 1, EMPTY), back(0, EMPTY, [1, 2]), over(0, 7, 0, EMPTY), then(0, 1, 7), over(7, 0, 0, 7)):
            self.assertEqual(run(*FILL, call)[-1], [0], call)
        self.assertEqual(run(*FILL, place(7, 2, 1), same(7, 0), same(7, 7))[-3:], [[0, 1], [0], [1]])

    def test_an_empty_slot_that_is_only_written_is_no_refusal(self):
        given = run(set_(0, [KEEP, 1]), *[then(0, 0, k) for k in range(1, 8)])
        self.assertEqual(given, [[0]] * 8)

    def test_every_slot_is_empty_at_a_lines_beginning(self):
        for i in range(8):
            for call in (then(i, i, i), back(i, i), over(i, i, 0, i), place(i, 0, 0), same(i, i)):
                self.assertEqual(answers(call), [1, -1], call)

    def test_a_refused_call_leaves_the_slot_it_would_write_empty(self):
        given = run(*FILL, then(1, 1, EMPTY), back(0, EMPTY, [1]), over(0, 1, 1, EMPTY), over(3, 4, 1, EMPTY),
                    place(EMPTY, 0, 0), same(EMPTY, 0))
        self.assertEqual(given[len(FILL):], [[-2], [-2], [-2], [-3], [-1], [-1]])


class Lengths(Refusals):
    def test_then_where_the_texts_between_differ(self):
        for i, j in ((0, 0), (1, 0), (1, 1), (0, 2), (2, 0), (3, 2), (3, 4), (5, 1), (7, 0)):
            for k in (i, j, EMPTY, 7):
                self.assert_refused(-2, then(i, j, k))

    def test_then_asks_for_the_new_length_of_the_first(self):
        # Slot 0's old text is as long as slot 7's: that's not what counts.
        self.assert_refused(-2, then(7, 0, EMPTY))
        self.assertEqual(run(*FILL, then(0, 1, EMPTY))[-1], [0])

    def test_then_one_byte_off(self):
        for size, answer in ((2, -2), (3, 0), (4, -2)):
            given = run(set_(0, [KEEP, 1, PUT, 2], [1, 2]), set_(1, [KEEP, size]), then(0, 1, 2))
            self.assertEqual(given[2], [answer])
        for size, answer in ((1023, -2), (1024, 0)):
            given = run(set_(0, [KEEP, 1024]), set_(1, [KEEP, size]), then(0, 1, 2), then(1, 0, 2))
            self.assertEqual(given[2:], [[answer], [answer]])

    def test_back_on_a_text_of_another_length(self):
        wrong = {0: (0, 1, 3, 1200), 1: (2, 4), 2: (1,), 3: (1, 600), 5: (0, 1023, 1025, 1200), 7: (1, 3)}
        for i, sizes in wrong.items():
            for size in sizes:
                for k in (i, EMPTY):
                    self.assert_refused(-2, back(i, k, [9] * size))

    def test_back_on_a_text_of_the_old_length(self):
        for i, size in ((0, 2), (1, 3), (2, 0), (3, 0), (5, 1024), (7, 2)):
            self.assertEqual(run(*FILL, back(i, EMPTY, [9] * size))[-1], [0])

    def test_over_where_the_old_texts_differ(self):
        for i, j in ((0, 1), (1, 0), (0, 2), (3, 5), (5, 4), (1, 7)):
            for first in (0, 1, LARGEST):
                for k in (i, j, EMPTY):
                    self.assert_refused(-2, over(i, j, first, k))

    def test_over_asks_for_the_old_lengths(self):
        # What is new is of one length here, what is old is not, and the other way round.
        given = run(set_(0, [KEEP, 2]), set_(1, [KEEP, 1, PUT, 1], [1]), over(0, 1, 0, 2), set_(3, [DROP, 2]),
                    over(0, 3, 0, 2))
        self.assertEqual(given[2:], [[-2], [0], [0]])

    def test_over_one_byte_off(self):
        for size, answer in ((2, -2), (3, 0), (4, -2)):
            given = run(set_(0, [KEEP, 3]), set_(1, [DROP, size]), over(0, 1, 0, 2), over(1, 0, 0, 2))
            self.assertEqual(given[2:], [[answer], [answer]])

    def test_over_where_both_done_would_be_too_long(self):
        for i, j in ((3, 4), (4, 3), (3, 3)):
            for first in (0, 1, LARGEST):
                for k in (i, j, EMPTY):
                    self.assert_refused(-3, over(i, j, first, k))

    def test_place_above_the_old_texts_length(self):
        for i, size in ((0, 2), (1, 3), (2, 0), (3, 0), (5, 1024), (7, 2)):
            for g in (size + 1, size + 2, 600 + size, LARGEST):
                for right in (0, 1, LARGEST):
                    self.assert_refused(-2, place(i, g, right))


class TwoAtOnce(Refusals):
    def test_a_slot_is_told_before_a_length(self):
        for call in (
            then(1, 1, 8), then(8, 1, LARGEST), then(EMPTY, EMPTY, 8), then(EMPTY, 0, 0), then(0, 0, LARGEST),
            back(0, 8, [1]), back(8, 0, [1]), back(EMPTY, 0, [1] * 1200), back(EMPTY, LARGEST), back(LARGEST, 8),
            over(0, 1, 0, 8), over(0, 1, 1, LARGEST), over(8, 1, 0, 8), over(EMPTY, 1, 0, 0), over(1, EMPTY, 1, 9),
            over(3, 4, 0, 8), over(3, 4, 1, LARGEST), over(3, EMPTY, LARGEST, 3), over(8, 4, LARGEST, 3),
            place(8, LARGEST, 0), place(EMPTY, LARGEST, 1), place(LARGEST, LARGEST, LARGEST), place(EMPTY, 1025, 0),
            same(8, EMPTY), same(EMPTY, LARGEST), same(LARGEST, LARGEST),
        ):
            self.assert_refused(-1, call)

    def test_over_tells_different_old_texts_before_too_long_a_one(self):
        fill = [set_(0, [PUT, 1024], [1] * 1024), set_(1, [KEEP, 1, PUT, 1023], [2] * 1023)]
        given = run(*fill, over(0, 1, 0, 2), over(1, 0, 1, 2), over(0, 1, 1, 0), *readings())
        self.assertEqual(given[2:5], [[-2]] * 3)
        self.assertEqual(given[5:], run(*fill, *readings())[2:])


class LineGoesOn(unittest.TestCase):
    def test_calls_behind_a_refusal_are_read_at_the_right_number(self):
        line = [*then(8, 1, 1), *back(0, 0, [7, 1, 2]), *over(1, 2, 3, 4), *place(1, 2, 3), *same(4, 5),
                *set_(0, [KEEP, 1]), *back(0, 0, [3, 3, 3]), *back(0, 9, [6]), *same(0, 0)]
        self.assertEqual(answers(line), [1, -1] * 5 + [1, 0, 1, -2, 1, -1, 1, 1])

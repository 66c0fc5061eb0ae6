"""Promise 2: then is one done after the other, in whatever groups."""

import unittest

from tests.line import DROP, KEEP, PUT, apply, look, reading, run, same, set_, then
from tests.model import larger_edits, new_size, old_size, on_text, small_edits, then_of, told

# "abcd" becomes "aXYd", and that "XZd".
FIRST = [KEEP, 1, PUT, 2, DROP, 2, KEEP, 1], [88, 89]
SECOND = [DROP, 1, KEEP, 1, DROP, 1, PUT, 1, KEEP, 1], [90]
BOTH = [PUT, 2, DROP, 3, KEEP, 1], [88, 90]


class OrdinaryThen(unittest.TestCase):
    def test_one_after_the_other(self):
        given = run(set_(0, *FIRST), set_(1, *SECOND), then(0, 1, 2), look(2), *reading(2), apply(2, b"abcd"))
        self.assertEqual(given, [[0], [0], [0], [0, 4, 3, 1], *told(BOTH), [0, 3, *b"XZd"]])

    def test_what_is_read_stays_where_another_slot_is_written(self):
        both = [*reading(0), *reading(1)]
        given = run(set_(0, *FIRST), set_(1, *SECOND), *both, then(0, 1, 2), *both)
        self.assertEqual(given[7:], given[2:6])

    def test_into_the_slot_of_the_first(self):
        given = run(set_(0, *FIRST), set_(1, *SECOND), *reading(1), then(0, 1, 0), *reading(0), *reading(1))
        self.assertEqual(given[4:], [[0], *told(BOTH), *given[2:4]])

    def test_into_the_slot_of_the_second(self):
        given = run(set_(0, *FIRST), set_(1, *SECOND), *reading(0), then(0, 1, 1), *reading(1), *reading(0))
        self.assertEqual(given[4:], [[0], *told(BOTH), *given[2:4]])

    def test_of_a_slot_and_itself(self):
        turn = [KEEP, 1, DROP, 1, KEEP, 1, PUT, 1], [7]
        twice = [KEEP, 1, PUT, 2, DROP, 2], [7, 7]
        given = run(set_(3, *turn), then(3, 3, 4), *reading(4), *reading(3))
        self.assertEqual(given[1:], [[0], *told(twice), *told(turn)])

    def test_of_a_slot_and_itself_into_itself(self):
        grow = [KEEP, 2, DROP, 1, PUT, 1], [5]
        given = run(set_(3, *grow), then(3, 3, 3), *reading(3), then(3, 3, 3), *reading(3), apply(3, [1, 2, 3]))
        form = [KEEP, 2, PUT, 1, DROP, 1], [5]
        self.assertEqual(given[1:], [[0], *told(form), [0], *told(form), [0, 3, 1, 2, 5]])

    def test_over_a_slot_that_has_an_edit(self):
        given = run(set_(0, *FIRST), set_(1, *SECOND), set_(2, [PUT, 9], [9] * 9), then(0, 1, 2), *reading(2))
        self.assertEqual(given[3:], [[0], *told(BOTH)])

    def test_a_new_byte_that_is_dropped_again_is_not_there(self):
        given = run(set_(0, [KEEP, 1, PUT, 1, KEEP, 1], [9]), set_(1, [KEEP, 1, DROP, 1, KEEP, 1]), then(0, 1, 2),
                    set_(3, [KEEP, 2]), *reading(2), same(2, 3))
        self.assertEqual(given[2:], [[0], [0], *told(([KEEP, 2], [])), [1]])

    def test_the_order_counts(self):
        given = run(set_(0, [PUT, 1, KEEP, 1, DROP, 1], [1]), set_(1, [DROP, 1, KEEP, 1, PUT, 1], [2]),
                    then(0, 1, 2), then(1, 0, 3), apply(2, [8, 9]), apply(3, [8, 9]))
        self.assertEqual(given[2:], [[0], [0], [0, 2, 8, 2], [0, 2, 1, 9]])

    def test_old_text_of_length_nought(self):
        given = run(set_(0, []), set_(1, [PUT, 2], [1, 2]), then(0, 1, 2), *reading(2), then(0, 0, 3), *reading(3))
        self.assertEqual(given[2:], [[0], *told(([PUT, 2], [1, 2])), [0], *told(([], []))])

    def test_all_is_gone_in_between(self):
        given = run(set_(0, [DROP, 2]), set_(1, [PUT, 1], [4]), then(0, 1, 2), *reading(2))
        self.assertEqual(given[2:], [[0], *told(([PUT, 1, DROP, 2], [4]))])


class OneDoneAfterTheOther(unittest.TestCase):
    def check(self, d, e):
        text = [200 + p for p in range(old_size(d))]
        between = on_text(d, text)
        end = on_text(e, between)
        given = run(set_(0, *d), set_(1, *e), then(0, 1, 2), *reading(2), apply(2, text), apply(0, text),
                    apply(1, between))
        self.assertEqual(given[2:5], [[0], *told(then_of(d, e))], (d, e))
        self.assertEqual(given[5:], [[0, len(end), *end], [0, len(between), *between], [0, len(end), *end]], (d, e))

    def test_all_small_edits(self):
        for size in range(3):
            for d in small_edits(size, 10):
                if new_size(d) <= 3:
                    for e in small_edits(new_size(d), 20):
                        self.check(d, e)

    def test_larger_edits(self):
        for seed, d in enumerate(larger_edits("then", 60, 12)):
            for e in larger_edits(seed, 3, new_size(d)):
                self.check(d, e)


class InWhateverGroups(unittest.TestCase):
    def check(self, d, e, f):
        given = run(set_(0, *d), set_(1, *e), set_(2, *f), then(0, 1, 3), then(3, 2, 3), then(1, 2, 4), then(0, 4, 4),
                    same(3, 4), *reading(3), *reading(4))
        self.assertEqual(given[3:8], [[0]] * 4 + [[1]], (d, e, f))
        self.assertEqual(given[8:10], given[10:12], (d, e, f))

    def test_all_small_edits(self):
        for size in range(2):
            for d in small_edits(size, 10):
                if new_size(d) <= 2:
                    for e in small_edits(new_size(d), 20):
                        if new_size(e) <= 2:
                            for f in small_edits(new_size(e), 30):
                                self.check(d, e, f)

    def test_larger_edits(self):
        for seed, d in enumerate(larger_edits("groups", 60, 10)):
            for e in larger_edits(seed, 2, new_size(d)):
                for f in larger_edits(seed + 1000, 2, new_size(e)):
                    self.check(d, e, f)

    def test_keeping_all_before_or_behind_changes_nothing(self):
        for d in larger_edits("keep", 30, 9):
            given = run(set_(0, *d), set_(1, [KEEP, 9]), set_(2, [KEEP, new_size(d)]), then(1, 0, 3), then(0, 2, 4),
                        same(0, 3), same(0, 4))
            self.assertEqual(given[3:], [[0], [0], [1], [1]], d)


class LongestTexts(unittest.TestCase):
    def test_texts_of_1024_all_along(self):
        d = [DROP, 1, KEEP, 1023, PUT, 1], [1]
        e = [PUT, 1, KEEP, 1023, DROP, 1], [2]
        old = [p % 256 for p in range(1024)]
        given = run(set_(0, *d), set_(1, *e), then(0, 1, 2), look(2), *reading(2), apply(2, old))
        self.assertEqual(given[2:], [[0], [0, 1024, 1024, 1023], *told(([PUT, 1, DROP, 1, KEEP, 1023], [2])),
                                     [0, 1024, 2, *old[1:]]])

    def test_1024_old_bytes_to_none_to_1024_new_ones(self):
        octets = [n % 255 for n in range(1024)]
        given = run(set_(0, [DROP, 1024]), set_(1, [PUT, 1024], octets), then(0, 1, 2), *reading(2), then(1, 0, 3),
                    look(3), *reading(3))
        self.assertEqual(given[2:5], [[0], *told(([PUT, 1024, DROP, 1024], octets))])
        self.assertEqual(given[5:], [[0], [0, 0, 0, 0], *told(([], []))])

    def test_every_second_byte(self):
        d = [DROP, 1, PUT, 1, KEEP, 1] * 512, [n % 256 for n in range(512)]
        e = [KEEP, 1, DROP, 1, PUT, 1] * 512, [n % 251 for n in range(512)]
        given = run(set_(0, *d), set_(1, *e), then(0, 1, 2), *reading(2))
        self.assertEqual(given[2:], [[0], *told(then_of(d, e))])

"""Promise 6: refusals are as said, the first told that holds counts, and nothing has changed."""

import unittest

from tests.line import DROP, KEEP, LARGEST, PUT, apply, bytes_, items, look, readings, run, set_

NOUGHTS = [KEEP, 0]


class RefusedSet(unittest.TestCase):
    def assert_refused(self, number, k, edit, octets=()):
        """On eight slots with edits, and again on eight empty ones."""
        fill = [set_(i, [KEEP, i, PUT, 1], [i]) for i in range(8)]
        given = run(*fill, *readings(), set_(k, edit, octets), *readings())
        self.assertEqual(given[32], [number])
        self.assertEqual(given[33:], given[8:32])
        self.assertEqual(run(set_(k, edit, octets), *readings()), [[number]] + [[-1]] * 24)

    def test_slot_above_7(self):
        for k in (8, 9, 255, 256, LARGEST):
            with self.subTest(k=k):
                self.assert_refused(-1, k, [KEEP, 1])

    def test_slot_7_is_one(self):
        self.assertEqual(run(set_(7, [KEEP, 1]), look(7)), [[0], [0, 1, 1, 1]])

    def test_items_that_are_not_two_numbers_each(self):
        for edit in ([KEEP], [KEEP, 1, DROP], [KEEP, 1, PUT, 0, KEEP], [7], NOUGHTS * 2049 + [KEEP]):
            with self.subTest(size=len(edit)):
                self.assert_refused(-1, 0, edit)

    def test_more_than_2049_items(self):
        self.assert_refused(-3, 0, NOUGHTS * 2050)
        self.assert_refused(-3, 0, NOUGHTS * 2100)

    def test_more_than_1024_bytes(self):
        self.assert_refused(-3, 0, [PUT, 1025], [1] * 1025)
        self.assert_refused(-3, 0, [PUT, 1200], [1] * 1200)

    def test_kind_above_2(self):
        for kind in (3, 4, 255, 256, 258, LARGEST):
            for count in (0, 1, LARGEST):
                with self.subTest(kind=kind, count=count):
                    self.assert_refused(-2, 0, [kind, count])
                    self.assert_refused(-2, 0, [KEEP, 1, kind, count, PUT, 1], [1])

    def test_items_that_put_more_bytes_than_there_are(self):
        self.assert_refused(-2, 0, [PUT, 1])
        self.assert_refused(-2, 0, [KEEP, 1, PUT, 2, DROP, 1, PUT, 2], [1, 2, 3])
        self.assert_refused(-2, 0, [PUT, LARGEST], [1])

    def test_items_that_put_fewer_bytes_than_there_are(self):
        self.assert_refused(-2, 0, [], [1])
        self.assert_refused(-2, 0, [KEEP, 1], [1])
        self.assert_refused(-2, 0, [PUT, 1, DROP, 1, PUT, 1], [1, 2, 3])

    def test_old_text_longer_than_1024(self):
        for edit in ([KEEP, 1025], [DROP, 1025], [KEEP, 1, DROP, 1024], [DROP, 512, KEEP, 0, DROP, 513]):
            with self.subTest(edit=edit):
                self.assert_refused(-3, 0, edit)

    def test_new_text_longer_than_1024(self):
        self.assert_refused(-3, 0, [KEEP, 1024, PUT, 1], [1])
        self.assert_refused(-3, 0, [PUT, 1024, KEEP, 1], [1] * 1024)
        self.assert_refused(-3, 0, [PUT, 12, KEEP, 1001, PUT, 12], [1] * 24)

    def test_largest_how_many(self):
        self.assert_refused(-3, 0, [KEEP, LARGEST])
        self.assert_refused(-3, 0, [DROP, LARGEST])
        self.assert_refused(-3, 0, [DROP, LARGEST, DROP, 1])
        self.assert_refused(-3, 0, [KEEP, LARGEST] * 2049)
        self.assert_refused(-2, 0, [PUT, LARGEST])
        self.assert_refused(-2, 0, [PUT, LARGEST, PUT, 2], [1])

    def test_two_refusals_at_once(self):
        for number, k, edit, octets in (
            (-1, 8, [KEEP], []),
            (-1, 8, NOUGHTS * 2050, []),
            (-1, 8, [PUT, 1025], [1] * 1025),
            (-1, 8, [3, 0], []),
            (-1, 8, [PUT, 1], []),
            (-1, 8, [KEEP, 1025], []),
            (-1, 0, NOUGHTS * 2050 + [KEEP], []),
            (-1, 0, [PUT, 1025, KEEP], [1] * 1025),
            (-1, 0, [3, 0, 3], []),
            (-1, 0, [KEEP], [1]),
            (-1, 0, [KEEP, 1025, KEEP], []),
            (-3, 0, [3, 0] * 2050, []),
            (-3, 0, NOUGHTS * 2050, [1]),
            (-3, 0, [3, 0], [1] * 1025),
            (-3, 0, [], [1] * 1025),
            (-3, 0, [PUT, 1024], [1] * 1025),
            (-2, 0, [3, 1025], []),
            (-2, 0, [3, 0, KEEP, 1025], []),
            (-2, 0, [KEEP, 1025, 3, 0], []),
            (-2, 0, [KEEP, 1025, PUT, 1], []),
            (-2, 0, [DROP, LARGEST], [1]),
            (-2, 0, [KEEP, 1024, PUT, 2], [1]),
            (-2, 0, [PUT, 1025], [1] * 1024),
        ):
            with self.subTest(number=number, k=k, edit=edit[:6], octets=len(octets)):
                self.assert_refused(number, k, edit, octets)


class EdgesThatAreNotRefused(unittest.TestCase):
    def test_2049_items(self):
        self.assertEqual(run(set_(0, NOUGHTS * 2049), items(0)), [[0], [0]])
        octets = [n % 256 for n in range(1024)]
        given = run(set_(0, [DROP, 1, PUT, 1] * 1024 + NOUGHTS, octets), look(0), items(0), bytes_(0))
        self.assertEqual(given, [[0], [0, 1024, 1024, 0], [2, PUT, 1024, DROP, 1024], [0, 1024, *octets]])

    def test_1024_new_bytes(self):
        octets = [n % 251 for n in range(1024)]
        given = run(set_(0, [PUT, 1024], octets), look(0), bytes_(0), apply(0))
        self.assertEqual(given, [[0], [0, 0, 1024, 0], [0, 1024, *octets], [0, 1024, *octets]])

    def test_old_text_of_1024(self):
        old = [n % 253 for n in range(1024)]
        given = run(set_(0, [DROP, 1, KEEP, 1000, DROP, 23]), look(0), apply(0, old), apply(0, old[1:]))
        self.assertEqual(given, [[0], [0, 1024, 1000, 1000], [0, 1000, *old[1:1001]], [-2]])

    def test_new_text_of_1024(self):
        given = run(set_(0, [KEEP, 1000, PUT, 24], [1] * 24), look(0), apply(0, [2] * 1000))
        self.assertEqual(given, [[0], [0, 1000, 1024, 1000], [0, 1024, *[2] * 1000, *[1] * 24]])

    def test_old_and_new_text_of_1024(self):
        given = run(set_(0, [KEEP, 1023, DROP, 1, PUT, 1], [9]), look(0), items(0), apply(0, [5] * 1024))
        self.assertEqual(given[:2], [[0], [0, 1024, 1024, 1023]])
        self.assertEqual(given[2:], [[3, KEEP, 1023, PUT, 1, DROP, 1], [0, 1024, *[5] * 1023, 9]])


class RefusedReading(unittest.TestCase):
    def reading_calls(self, i):
        return [look(i), items(i), bytes_(i), apply(i), apply(i, [1, 2])]

    def test_every_slot_is_empty_at_a_lines_beginning(self):
        for i in range(8):
            with self.subTest(i=i):
                self.assertEqual(run(*self.reading_calls(i)), [[-1]] * 5)

    def test_slots_above_7(self):
        fill = [set_(k, [KEEP, 2]) for k in range(8)]
        for i in (8, 9, 255, 256, LARGEST):
            with self.subTest(i=i):
                self.assertEqual(run(*fill, *self.reading_calls(i))[8:], [[-1]] * 5)

    def test_slot_7_is_one(self):
        given = run(set_(7, [KEEP, 2]), *self.reading_calls(7))
        self.assertEqual(given[1:], [[0, 2, 2, 2], [1, KEEP, 2], [0, 0], [-2], [0, 2, 1, 2]])

    def test_the_other_slots_stay_empty(self):
        for k in range(8):
            others = [call for i in range(8) if i != k for call in self.reading_calls(i)]
            with self.subTest(k=k):
                self.assertEqual(run(set_(k, [KEEP, 2]), *others)[1:], [[-1]] * 35)

    def test_apply_on_a_text_of_another_length(self):
        for size in (0, 1, 2, 4, 5, 1024, 1025, 1200):
            with self.subTest(size=size):
                given = run(set_(0, [KEEP, 1, DROP, 2, PUT, 3], [1, 2, 3]), apply(0, [1] * size))
                self.assertEqual(given, [[0], [-2]])

    def test_apply_asks_for_the_old_length_not_the_new_one(self):
        given = run(set_(0, [KEEP, 1, PUT, 3], [1, 2, 3]), apply(0, [9] * 4), apply(0, [9]))
        self.assertEqual(given[1:], [[-2], [0, 4, 9, 1, 2, 3]])

    def test_apply_of_an_old_text_of_length_nought(self):
        self.assertEqual(run(set_(0, [PUT, 1], [1]), apply(0, [0]), apply(0)), [[0], [-2], [0, 1, 1]])

    def test_apply_tells_the_slot_first(self):
        self.assertEqual(run(set_(0, [KEEP, 1]), apply(8, [1, 2]), apply(1, [1, 2])), [[0], [-1], [-1]])

    def test_refused_readings_change_nothing(self):
        fill = [set_(k, [KEEP, k, PUT, 1], [k]) for k in range(0, 8, 2)]
        refused = [*self.reading_calls(1), *self.reading_calls(8), *self.reading_calls(LARGEST), apply(0, [1])]
        given = run(*fill, *readings(), *refused, *readings())
        self.assertEqual(given[28:44], [[-1]] * 15 + [[-2]])
        self.assertEqual(given[44:], given[4:28])

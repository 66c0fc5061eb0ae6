"""same: an edit is what it does."""

import itertools
import unittest

from editslots.slots import answers
from tests.line import DROP, KEEP, PUT, back, over, readings, run, same, set_, then
from tests.model import meaning, small_edits


def asked(d, e):
    """What same answers of two edits, both ways round."""
    given = run(set_(0, *d), set_(1, *e), same(0, 1), same(1, 0))
    if given[2] != given[3]:
        raise AssertionError(f"{d!r} and {e!r} are the same one way round alone")
    return given[2]


class Same(unittest.TestCase):
    def test_from_different_items(self):
        for d, e, octets in (
            ([KEEP, 3], [KEEP, 1, KEEP, 2], []),
            ([KEEP, 1, PUT, 2, DROP, 2], [KEEP, 1, DROP, 2, PUT, 2], [1, 2]),
            ([PUT, 2, DROP, 2], [DROP, 1, PUT, 1, DROP, 1, PUT, 1], [1, 2]),
            ([], [KEEP, 0, DROP, 0, PUT, 0], []),
            ([DROP, 2, KEEP, 1], [DROP, 1, KEEP, 0, DROP, 1, KEEP, 1], []),
        ):
            with self.subTest(d=d, e=e):
                self.assertEqual(asked((d, octets), (e, octets)), [1])

    def test_old_texts_length_alone_differs(self):
        for d, e in (
            (([DROP, 2], []), ([DROP, 3], [])),
            (([], []), ([DROP, 1], [])),
            (([KEEP, 1], []), ([KEEP, 1, DROP, 1], [])),
            (([PUT, 1], [5]), ([PUT, 1, DROP, 1], [5])),
            (([DROP, 1024], []), ([DROP, 1023], [])),
        ):
            with self.subTest(d=d, e=e):
                self.assertEqual(asked(d, e), [0])

    def test_one_new_byte_alone_differs(self):
        for one, other in ((0, 1), (0, 255), (127, 128), (254, 255)):
            self.assertEqual(asked(([KEEP, 1, PUT, 3], [7, one, 7]), ([KEEP, 1, PUT, 3], [7, other, 7])), [0])

    def test_the_order_of_new_bytes_alone_differs(self):
        self.assertEqual(asked(([PUT, 2], [1, 2]), ([PUT, 2], [2, 1])), [0])

    def test_which_of_two_old_bytes_is_kept(self):
        self.assertEqual(asked(([KEEP, 1, DROP, 1], []), ([DROP, 1, KEEP, 1], [])), [0])

    def test_a_byte_kept_or_put_anew(self):
        self.assertEqual(asked(([KEEP, 1], []), ([DROP, 1, PUT, 1], [0])), [0])

    def test_where_a_new_byte_stands(self):
        edits = [([PUT, 1, KEEP, 2], [0]), ([KEEP, 1, PUT, 1, KEEP, 1], [0]), ([KEEP, 2, PUT, 1], [0])]
        for d, e in itertools.combinations(edits, 2):
            self.assertEqual(asked(d, e), [0])

    def test_a_new_text_that_goes_on(self):
        self.assertEqual(asked(([KEEP, 1], []), ([KEEP, 1, PUT, 1], [0])), [0])
        self.assertEqual(asked(([DROP, 2], []), ([KEEP, 1, DROP, 1], [])), [0])

    def test_a_slot_and_itself(self):
        for edit in (([], []), ([KEEP, 2, PUT, 1], [3]), ([DROP, 1024], [])):
            self.assertEqual(run(set_(7, *edit), same(7, 7)), [[0], [1]])

    def test_all_small_edits(self):
        edits = [edit for size in range(3) for edit in small_edits(size, 10)]
        for d, e in itertools.product(edits, repeat=2):
            self.assertEqual(asked(d, e), [1 if meaning(d[0]) == meaning(e[0]) else 0], (d, e))

    def test_the_answer_is_a_whole_number(self):
        given = answers(set_(0, []) + set_(1, [KEEP, 1]) + same(0, 0) + same(0, 1))
        self.assertEqual(given, [1, 0, 1, 0, 1, 1, 1, 0])
        self.assertEqual({type(number) for number in given}, {int})

    def test_asking_changes_nothing(self):
        given = run(set_(0, [KEEP, 1]), set_(1, [DROP, 1]), *readings(), same(0, 1), same(1, 1), same(1, 2),
                    *readings())
        self.assertEqual(given[26:29], [[0], [1], [-1]])
        self.assertEqual(given[29:], given[2:26])


class MadeByOtherCalls(unittest.TestCase):
    def test_made_by_then(self):
        given = run(set_(0, [KEEP, 1, PUT, 2], [1, 2]), set_(1, [KEEP, 2, DROP, 1]), then(0, 1, 2),
                    set_(3, [KEEP, 1, PUT, 1], [1]), same(2, 3), same(3, 2), same(2, 0))
        self.assertEqual(given[4:], [[1], [1], [0]])

    def test_made_by_back(self):
        given = run(set_(0, [KEEP, 1, PUT, 2, DROP, 1], [1, 2]), back(0, 1, [8, 9]),
                    set_(2, [KEEP, 1, DROP, 2, PUT, 1], [9]), set_(3, [KEEP, 1, DROP, 2, PUT, 1], [8]), same(1, 2),
                    same(1, 3))
        self.assertEqual(given[4:], [[1], [0]])

    def test_made_by_over(self):
        given = run(set_(0, [KEEP, 1, PUT, 1, DROP, 1], [1]), set_(1, [KEEP, 1, PUT, 1, KEEP, 1], [2]),
                    over(0, 1, 1, 2), over(0, 1, 0, 3), set_(4, [KEEP, 1, PUT, 1, KEEP, 1, DROP, 1], [1]),
                    set_(5, [KEEP, 2, DROP, 1, PUT, 1], [1]), same(2, 4), same(3, 5), same(2, 3))
        self.assertEqual(given[6:], [[1], [1], [0]])

    def test_made_by_one_another(self):
        given = run(set_(0, [KEEP, 2, DROP, 1]), back(0, 1, [1, 2, 3]), then(0, 1, 2),
                    set_(3, [KEEP, 2, DROP, 1, PUT, 1], [3]), same(2, 3), then(1, 0, 4), set_(5, [KEEP, 2]),
                    same(4, 5), over(0, 0, 0, 6), same(6, 5))
        self.assertEqual(given[1:], [[0], [0], [0], [1], [0], [0], [1], [0], [1]])

"""Promise 5: places don't cross."""

import unittest

from tests.line import DROP, KEEP, LARGEST, PUT, look, over, place, reading, run, set_, then
from tests.model import larger_edits, new_size, old_size, place_of, small_edits

LEFT, RIGHT = 0, 1

# "abcdef" becomes "aXYdZf".
EDIT = [KEEP, 1, PUT, 2, DROP, 2, KEEP, 1, DROP, 1, PUT, 1, KEEP, 1], [88, 89, 90]


def places(edit, right):
    """The places of each g, from the beginning to the old text's end."""
    given = run(set_(0, *edit), *[place(0, g, right) for g in range(old_size(edit) + 1)])
    return [answer[1:] if answer[0] == 0 else answer for answer in given[1:]]


class OrdinaryPlace(unittest.TestCase):
    def check(self, edit, left, right):
        self.assertEqual(places(edit, LEFT), [[at] for at in left])
        self.assertEqual(places(edit, RIGHT), [[at] for at in right])

    def test_among_kept_dropped_and_new_bytes(self):
        self.check(EDIT, [0, 1, 1, 1, 4, 4, 6], [0, 3, 3, 3, 5, 5, 6])

    def test_an_answer_is_nought_and_the_place(self):
        self.assertEqual(run(set_(3, *EDIT), place(3, 4, LEFT), place(3, 4, RIGHT)), [[0], [0, 4], [0, 5]])

    def test_all_kept(self):
        self.check(([KEEP, 3], []), [0, 1, 2, 3], [0, 1, 2, 3])

    def test_all_dropped(self):
        self.check(([DROP, 3], []), [0, 0, 0, 0], [0, 0, 0, 0])

    def test_all_dropped_and_new_bytes_put(self):
        self.check(([DROP, 2, PUT, 4], [1, 2, 3, 4]), [0, 0, 0], [4, 4, 4])

    def test_new_bytes_at_the_beginning(self):
        self.check(([PUT, 2, KEEP, 1], [1, 2]), [0, 3], [2, 3])

    def test_new_bytes_at_the_end(self):
        self.check(([KEEP, 1, PUT, 2], [1, 2]), [0, 1], [0, 3])

    def test_new_bytes_between_kept_ones(self):
        self.check(([KEEP, 1, PUT, 2, KEEP, 1], [1, 2]), [0, 1, 4], [0, 3, 4])

    def test_dropped_bytes_at_both_ends(self):
        self.check(([DROP, 1, KEEP, 1, DROP, 1], []), [0, 0, 1, 1], [0, 0, 1, 1])

    def test_old_text_of_length_nought(self):
        self.check(([], []), [0], [0])
        self.check(([PUT, 3], [1, 2, 3]), [0], [3])

    def test_any_number_but_nought_is_to_the_right(self):
        for right in (1, 2, 256, 2 ** 31, LARGEST):
            with self.subTest(right=right):
                self.assertEqual(run(set_(0, [PUT, 3], [1, 2, 3]), place(0, 0, right)), [[0], [0, 3]])

    def test_at_the_old_texts_length_and_one_above_it(self):
        for size in (0, 1, 5, 1023, 1024):
            for right in (LEFT, RIGHT):
                with self.subTest(size=size, right=right):
                    given = run(set_(0, [KEEP, size]), place(0, size, right), place(0, size + 1, right),
                                place(0, LARGEST, right))
                    self.assertEqual(given[1:], [[0, size], [-2], [-2]])

    def test_the_old_texts_length_counts_not_the_new_ones(self):
        given = run(set_(0, [KEEP, 1, PUT, 5], [0] * 5), place(0, 1, LEFT), place(0, 2, LEFT), set_(1, [DROP, 5]),
                    place(1, 5, RIGHT), place(1, 6, RIGHT))
        self.assertEqual(given[1:], [[0, 1], [-2], [0], [0, 0], [-2]])

    def test_behind_the_calls_that_make_edits(self):
        given = run(set_(0, [KEEP, 2, PUT, 1], [1]), set_(1, [PUT, 1, DROP, 1, KEEP, 2], [2]), then(0, 1, 2),
                    place(2, 1, LEFT), place(2, 1, RIGHT), set_(3, [PUT, 2, KEEP, 2], [3, 4]), over(3, 0, 0, 4),
                    place(4, 0, RIGHT), place(4, 3, LEFT))
        self.assertEqual(given[2:], [[0], [0, 0], [0, 1], [0], [0], [0, 2], [0, 5]])

    def test_asking_changes_nothing(self):
        given = run(set_(0, *EDIT), look(0), *reading(0), place(0, 3, 0), place(0, 3, 1), place(0, 9, 1), look(0),
                    *reading(0))
        self.assertEqual(given[7:], given[1:4])


class PlacesDontCross(unittest.TestCase):
    def check(self, edit):
        left = [answer[0] for answer in places(edit, LEFT)]
        right = [answer[0] for answer in places(edit, RIGHT)]
        span = range(old_size(edit) + 1)
        self.assertEqual(left, [place_of(edit, g, False) for g in span], edit)
        self.assertEqual(right, [place_of(edit, g, True) for g in span], edit)
        self.assertEqual(left, sorted(left), edit)
        self.assertEqual(right, sorted(right), edit)
        for one, other in zip(left, right):
            self.assertLessEqual(one, other, edit)
        self.assertEqual((left[0], right[-1]), (0, new_size(edit)), edit)

    def test_all_small_edits(self):
        for size in range(5):
            for edit in small_edits(size, 10):
                self.check(edit)

    def test_larger_edits(self):
        for size in (6, 20, 60):
            for edit in larger_edits("place", 40, size):
                self.check(edit)

    def test_longest_texts(self):
        edit = [DROP, 1, PUT, 1, KEEP, 1] * 512, [n % 256 for n in range(512)]
        asked = [0, 1, 2, 511, 512, 1022, 1023, 1024]
        for right in (LEFT, RIGHT):
            given = run(set_(0, *edit), *[place(0, g, right) for g in asked])
            self.assertEqual(given[1:], [[0, place_of(edit, g, right == RIGHT)] for g in asked])

"""Promise 3: back brings the old text back."""

import unittest

from tests.line import DROP, KEEP, PUT, apply, back, look, reading, run, same, set_, then
from tests.model import back_of, in_one_form, larger_edits, old_size, on_text, small_edits, told

# "abcdef" becomes "abXYf".
EDIT = [KEEP, 2, DROP, 1, PUT, 2, DROP, 2, KEEP, 1], [88, 89]
BACK = [KEEP, 2, PUT, 3, DROP, 2, KEEP, 1], list(b"cde")


class OrdinaryBack(unittest.TestCase):
    def test_back(self):
        given = run(set_(0, *EDIT), back(0, 1, b"abcdef"), look(1), *reading(1), apply(1, b"abXYf"), *reading(0))
        self.assertEqual(given[1:], [[0], [0, 5, 6, 3], *told(BACK), [0, 6, *b"abcdef"], *told(in_one_form(EDIT))])

    def test_into_the_slot_itself(self):
        given = run(set_(0, *EDIT), back(0, 0, b"abcdef"), *reading(0), apply(0, b"abXYf"))
        self.assertEqual(given[1:], [[0], *told(BACK), [0, 6, *b"abcdef"]])

    def test_into_the_slot_itself_and_back_again(self):
        given = run(set_(0, *EDIT), set_(1, *EDIT), back(0, 0, b"abcdef"), back(0, 0, b"abXYf"), same(0, 1))
        self.assertEqual(given[2:], [[0], [0], [1]])

    def test_over_a_slot_that_has_an_edit(self):
        given = run(set_(0, *EDIT), set_(1, [PUT, 9], [9] * 9), back(0, 1, b"abcdef"), *reading(1))
        self.assertEqual(given[2:], [[0], *told(BACK)])

    def test_it_is_done_on_the_text_that_it_is_given(self):
        given = run(set_(0, [DROP, 1, KEEP, 1]), back(0, 1, b"ab"), back(0, 2, b"cd"), *reading(1), *reading(2),
                    same(1, 2))
        self.assertEqual(given[3:], [*told(([PUT, 1, KEEP, 1], b"a")), *told(([PUT, 1, KEEP, 1], b"c")), [0]])

    def test_bytes_that_are_kept_are_not_put_anew(self):
        given = run(set_(0, [KEEP, 3, PUT, 1], [1]), back(0, 1, b"abc"), *reading(1), apply(1, b"wxyz"))
        self.assertEqual(given[1:], [[0], *told(([KEEP, 3, DROP, 1], [])), [0, 3, *b"wxy"]])


class EdgesOfBack(unittest.TestCase):
    def check(self, edit, text, expected):
        new = on_text(edit, text)
        given = run(set_(0, *edit), back(0, 1, text), *reading(1), apply(1, new))
        self.assertEqual(given[1:], [[0], *told(expected), [0, len(text), *text]])

    def test_all_dropped(self):
        self.check(([DROP, 3], []), [1, 2, 3], ([PUT, 3], [1, 2, 3]))

    def test_all_dropped_and_others_put(self):
        self.check(([DROP, 3, PUT, 2], [8, 9]), [1, 2, 3], ([PUT, 3, DROP, 2], [1, 2, 3]))

    def test_all_kept(self):
        self.check(([KEEP, 3], []), [1, 2, 3], ([KEEP, 3], []))

    def test_no_byte_at_all(self):
        self.check(([], []), [], ([], []))

    def test_only_new_bytes(self):
        self.check(([PUT, 3], [1, 2, 3]), [], ([DROP, 3], []))

    def test_dropped_bytes_beside_new_ones(self):
        expected = [KEEP, 1, PUT, 2, DROP, 3, KEEP, 1], [6, 7]
        for middle in (
            [PUT, 3, DROP, 2], [DROP, 2, PUT, 3], [DROP, 1, PUT, 3, DROP, 1], [PUT, 1, DROP, 1, PUT, 2, DROP, 1],
        ):
            with self.subTest(middle=middle):
                self.check(([KEEP, 1, *middle, KEEP, 1], [1, 2, 3]), [5, 6, 7, 8], expected)

    def test_dropped_bytes_beside_new_ones_at_both_ends(self):
        edit = [DROP, 1, PUT, 1, KEEP, 1, PUT, 1, DROP, 1], [1, 2]
        self.check(edit, [5, 6, 7], ([PUT, 1, DROP, 1, KEEP, 1, PUT, 1, DROP, 1], [5, 7]))

    def test_old_and_new_text_of_1024(self):
        text = [p % 256 for p in range(1024)]
        octets = [p % 253 for p in range(1024)]
        self.check(([KEEP, 1024], []), text, ([KEEP, 1024], []))
        self.check(([DROP, 1024, PUT, 1024], octets), text, ([PUT, 1024, DROP, 1024], text))
        self.check(([DROP, 1024], []), text, ([PUT, 1024], text))
        self.check(([PUT, 1024], octets), [], ([DROP, 1024], []))
        every_second = [KEEP, 1, DROP, 1, PUT, 1] * 512, octets[:512]
        self.check(every_second, text, ([KEEP, 1, PUT, 1, DROP, 1] * 512, text[1::2]))


class TheOldTextIsBack(unittest.TestCase):
    def check(self, edit):
        text = [200 + p for p in range(old_size(edit))]
        new = on_text(edit, text)
        given = run(set_(0, *edit), back(0, 1, text), *reading(1), apply(1, new), then(0, 1, 2), apply(2, text),
                    back(1, 3, new), same(0, 3))
        old = [0, len(text), *text]
        self.assertEqual(given[1:], [[0], *told(back_of(edit, text)), old, [0], old, [0], [1]], edit)

    def test_all_small_edits(self):
        for size in range(5):
            for edit in small_edits(size, 10):
                self.check(edit)

    def test_larger_edits(self):
        for size in (5, 20, 50):
            for edit in larger_edits("back", 60, size):
                self.check(edit)

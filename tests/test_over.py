"""Promise 4: then of d and e led over d is then of e and d led over e, if the same one is first in both."""

import unittest

from tests.line import DROP, KEEP, LARGEST, PUT, apply, look, over, reading, readings, run, same, set_, then
from tests.model import both_done, in_one_form, larger_edits, on_text, over_of, small_edits, told


def both_texts(d, e, text, first):
    """The text on which both are done, d's new bytes first if first isn't 0: on the way over e, and over d."""
    other_first = 0 if first else 1
    given = run(set_(0, *d), set_(1, *e), over(0, 1, first, 2), over(1, 0, other_first, 3),
                apply(2, on_text(e, text)), apply(3, on_text(d, text)))
    return [given[4][2:], given[5][2:]]


class OrdinaryOver(unittest.TestCase):
    # "abcd": d makes "aXcd" of it, e "abcYd".
    D = [KEEP, 1, PUT, 1, DROP, 1, KEEP, 2], [88]
    E = [KEEP, 3, PUT, 1, KEEP, 1], [89]
    D_OVER_E = [KEEP, 1, PUT, 1, DROP, 1, KEEP, 3], [88]

    def test_led_over_the_other(self):
        given = run(set_(0, *self.D), set_(1, *self.E), over(0, 1, 0, 2), look(2), *reading(2), apply(2, b"abcYd"))
        self.assertEqual(given[2:], [[0], [0, 5, 5, 4], *told(self.D_OVER_E), [0, 5, *b"aXcYd"]])

    def test_what_is_read_stays_where_another_slot_is_written(self):
        given = run(set_(0, *self.D), set_(1, *self.E), over(0, 1, 0, 2), *reading(0), *reading(1))
        self.assertEqual(given[2:], [[0], *told(in_one_form(self.D)), *told(self.E)])

    def test_into_the_slot_of_the_first(self):
        given = run(set_(0, *self.D), set_(1, *self.E), over(0, 1, 0, 0), *reading(0), *reading(1))
        self.assertEqual(given[2:], [[0], *told(self.D_OVER_E), *told(self.E)])

    def test_into_the_slot_of_the_second(self):
        given = run(set_(0, *self.D), set_(1, *self.E), over(0, 1, 0, 1), *reading(1), *reading(0))
        self.assertEqual(given[2:], [[0], *told(self.D_OVER_E), *told(in_one_form(self.D))])

    def test_of_a_slot_over_itself(self):
        # What the other has dropped is not there to be dropped; its new bytes are kept.
        for first, form in ((1, [KEEP, 1, PUT, 1, KEEP, 3]), (0, [KEEP, 2, PUT, 1, KEEP, 2])):
            for k in (0, 5):
                with self.subTest(first=first, k=k):
                    given = run(set_(0, *self.D), over(0, 0, first, k), *reading(k))
                    self.assertEqual(given[1:], [[0], *told((form, [88]))])

    def test_over_a_slot_that_has_an_edit(self):
        given = run(set_(0, *self.D), set_(1, *self.E), set_(2, [PUT, 9], [9] * 9), over(0, 1, 0, 2), *reading(2))
        self.assertEqual(given[3:], [[0], *told(self.D_OVER_E)])

    def test_over_an_edit_that_keeps_all(self):
        given = run(set_(0, *self.D), set_(1, [KEEP, 4]), over(0, 1, 0, 2), same(0, 2), over(1, 0, 0, 3), *reading(3))
        self.assertEqual(given[2:], [[0], [1], [0], *told(([KEEP, 4], []))])

    def test_over_an_edit_that_drops_all(self):
        given = run(set_(0, *self.D), set_(1, [DROP, 4]), over(0, 1, 0, 2), *reading(2), over(1, 0, 0, 3), *reading(3))
        self.assertEqual(given[2:], [[0], *told(([PUT, 1], [88])), [0], *told(([DROP, 1, KEEP, 1, DROP, 2], []))])

    def test_any_number_but_nought_is_first(self):
        d, e = ([PUT, 1], [1]), ([PUT, 1], [2])
        for first, text in ((0, [2, 1]), (1, [1, 2]), (2, [1, 2]), (256, [1, 2]), (2 ** 31, [1, 2]), (LARGEST, [1, 2])):
            with self.subTest(first=first):
                self.assertEqual(both_texts(d, e, [], first), [text, text])


class WhereNewBytesStand(unittest.TestCase):
    def check(self, d, e, text, d_first, e_first):
        self.assertEqual(both_texts(d, e, text, 1), [list(d_first)] * 2)
        self.assertEqual(both_texts(d, e, text, 0), [list(e_first)] * 2)

    def test_of_both_behind_the_same_old_byte(self):
        d = [KEEP, 1, PUT, 2, KEEP, 1], b"XY"
        e = [KEEP, 1, PUT, 2, KEEP, 1], b"xy"
        self.check(d, e, b"ab", b"aXYxyb", b"axyXYb")

    def test_of_both_at_the_beginning(self):
        self.check(([PUT, 2, KEEP, 2], b"XY"), ([PUT, 2, KEEP, 2], b"xy"), b"ab", b"XYxyab", b"xyXYab")

    def test_of_both_at_the_end(self):
        self.check(([KEEP, 2, PUT, 2], b"XY"), ([KEEP, 2, PUT, 2], b"xy"), b"ab", b"abXYxy", b"abxyXY")

    def test_of_both_in_an_old_text_of_length_nought(self):
        self.check(([PUT, 2], b"XY"), ([PUT, 2], b"xy"), b"", b"XYxy", b"xyXY")
        self.check(([PUT, 2], b"XY"), ([], b""), b"", b"XY", b"XY")
        self.check(([], b""), ([PUT, 2], b"xy"), b"", b"xy", b"xy")
        self.check(([], b""), ([], b""), b"", b"", b"")

    def test_among_bytes_that_their_own_edit_drops(self):
        # They belong behind "a", before all that e has behind "b" and "c", wherever among the drops they were put.
        e = [KEEP, 2, PUT, 1, KEEP, 1, PUT, 1, KEEP, 1], b"xy"
        for middle in ([PUT, 1, DROP, 2], [DROP, 1, PUT, 1, DROP, 1], [DROP, 2, PUT, 1]):
            with self.subTest(middle=middle):
                self.check(([KEEP, 1, *middle, KEEP, 1], b"X"), e, b"abcd", b"aXxyd", b"aXxyd")

    def test_behind_a_byte_that_the_other_drops(self):
        # X belongs behind "b", though e drops it; x belongs behind "a", as e keeps none of "bc".
        d = [KEEP, 2, PUT, 1, KEEP, 2], b"X"
        for middle in ([PUT, 1, DROP, 2], [DROP, 1, PUT, 1, DROP, 1], [DROP, 2, PUT, 1]):
            with self.subTest(middle=middle):
                self.check(d, ([KEEP, 1, *middle, KEEP, 1], b"x"), b"abcd", b"axXd", b"axXd")

    def test_among_bytes_that_both_drop(self):
        for middle in ([PUT, 1, DROP, 2], [DROP, 1, PUT, 1, DROP, 1], [DROP, 2, PUT, 1]):
            for other in ([PUT, 1, DROP, 2], [DROP, 1, PUT, 1, DROP, 1], [DROP, 2, PUT, 1]):
                with self.subTest(middle=middle, other=other):
                    d = [KEEP, 1, *middle, KEEP, 1], b"X"
                    e = [KEEP, 1, *other, KEEP, 1], b"x"
                    self.check(d, e, b"abcd", b"aXxd", b"axXd")

    def test_among_bytes_that_both_drop_at_the_beginning_and_at_the_end(self):
        d = [DROP, 2, PUT, 1, KEEP, 1, DROP, 2, PUT, 1], b"XY"
        e = [PUT, 1, DROP, 2, KEEP, 1, DROP, 1, PUT, 1, DROP, 1], b"xy"
        self.check(d, e, b"abcde", b"XxcYy", b"xXcyY")

    def test_behind_different_bytes_that_the_other_drops(self):
        # Nothing of "abc" is left, and still the old bytes tell the order.
        d = [KEEP, 1, DROP, 1, KEEP, 1, PUT, 1], b"X"
        e = [DROP, 1, KEEP, 1, PUT, 1, DROP, 1], b"x"
        self.check(d, e, b"abc", b"xX", b"xX")
        self.check(e, d, b"abc", b"xX", b"xX")

    def test_at_the_beginning_and_behind_a_dropped_byte(self):
        self.check(([DROP, 1, PUT, 1], b"X"), ([KEEP, 1, PUT, 1], b"x"), b"a", b"Xx", b"Xx")
        self.check(([KEEP, 1, PUT, 1], b"X"), ([DROP, 1, PUT, 1], b"x"), b"a", b"xX", b"xX")

    def test_old_bytes_stand_only_where_both_keep_them(self):
        d = [KEEP, 2, DROP, 2], b""
        e = [KEEP, 1, DROP, 1, KEEP, 1, DROP, 1], b""
        self.check(d, e, b"abcd", b"a", b"a")


class ItDoesNotMatterWhichIsDoneFirst(unittest.TestCase):
    def check(self, d, e):
        for first in (0, 1):
            given = run(set_(0, *d), set_(1, *e), over(0, 1, first, 2), over(1, 0, 1 - first, 3), *reading(2),
                        *reading(3), then(1, 2, 4), then(0, 3, 5), same(4, 5), *reading(4), *reading(5))
            self.assertEqual(given[2:4], [[0], [0]], (d, e, first))
            self.assertEqual(given[4:6], told(over_of(d, e, first == 1)), (d, e, first))
            self.assertEqual(given[6:8], told(over_of(e, d, first == 0)), (d, e, first))
            self.assertEqual(given[8:11], [[0], [0], [1]], (d, e, first))
            self.assertEqual(given[11:13], given[13:15], (d, e, first))

    def test_all_small_edits(self):
        for size in range(3):
            for d in small_edits(size, 10):
                for e in small_edits(size, 20):
                    self.check(d, e)

    def test_edits_of_three_bytes(self):
        others = list(small_edits(3, 20))
        for at, d in enumerate(small_edits(3, 10)):
            for e in others[at % 5::5]:
                self.check(d, e)

    def test_larger_edits(self):
        for size in (0, 4, 9, 30):
            for seed, d in enumerate(larger_edits("over", 40, size)):
                for e in larger_edits(seed, 3, size):
                    self.check(d, e)


class LongestTexts(unittest.TestCase):
    def test_both_done_make_1024(self):
        d = [KEEP, 1000, PUT, 12], [1] * 12
        e = [PUT, 12, KEEP, 1000], [2] * 12
        given = run(set_(0, *d), set_(1, *e), over(0, 1, 0, 2), look(2), *reading(2), over(1, 0, 0, 3), look(3))
        self.assertEqual(given[2:], [[0], [0, 1012, 1024, 1012], *told(([KEEP, 1012, PUT, 12], [1] * 12)),
                                     [0], [0, 1012, 1024, 1012]])

    def test_both_done_make_1025(self):
        for d, e in (
            (([KEEP, 1000, PUT, 12], [1] * 12), ([PUT, 13, KEEP, 1000], [2] * 13)),
            (([PUT, 512], [1] * 512), ([PUT, 513], [2] * 513)),
            (([PUT, 1, KEEP, 1023], [1]), ([PUT, 1, KEEP, 1023], [2])),
            (([DROP, 1023, PUT, 2, KEEP, 1], [1, 1]), ([DROP, 1, PUT, 1023, KEEP, 1, DROP, 1022], [2] * 1023)),
            (([PUT, 1024], [1] * 1024), ([PUT, 1], [2])),
        ):
            with self.subTest(d=d[0], e=e[0]):
                self.assertEqual(len(both_done(d, e, True)), 1025)
                overs = [over(*way, first, k) for way in ((0, 1), (1, 0)) for first in (0, 1) for k in (0, 1, 2)]
                given = run(set_(0, *d), set_(1, *e), *readings(), *overs, *readings())
                self.assertEqual(given[26:38], [[-3]] * 12)
                self.assertEqual(given[38:], given[2:26])

    def test_old_and_new_texts_of_1024(self):
        text = [p % 256 for p in range(1024)]
        d = [DROP, 512, KEEP, 512, PUT, 512], [1] * 512
        e = [PUT, 512, KEEP, 512, DROP, 512], [2] * 512
        given = run(set_(0, *d), set_(1, *e), over(0, 1, 0, 2), look(2), *reading(2), apply(2, on_text(e, text)))
        self.assertEqual(given[2:], [[0], [0, 1024, 1024, 512], *told(([KEEP, 512, PUT, 512, DROP, 512], [1] * 512)),
                                     [0, 1024, *[2] * 512, *[1] * 512]])

    def test_all_kept_by_both(self):
        given = run(set_(0, [KEEP, 1024]), set_(1, [KEEP, 1024]), over(0, 1, 1, 2), look(2), *reading(2))
        self.assertEqual(given[2:], [[0], [0, 1024, 1024, 1024], *told(([KEEP, 1024], []))])

    def test_what_one_drops_makes_room_for_the_other(self):
        given = run(set_(0, [KEEP, 1023, DROP, 1]), set_(1, [KEEP, 1023, DROP, 1, PUT, 1], [7]), over(0, 1, 0, 2),
                    *reading(2), over(1, 0, 0, 3), *reading(3))
        self.assertEqual(given[2:], [[0], *told(([KEEP, 1024], [])), [0], *told(([KEEP, 1023, PUT, 1], [7]))])

    def test_both_replace_all_of_1024(self):
        d, e = ([DROP, 1024, PUT, 512], [1] * 512), ([DROP, 1024, PUT, 512], [2] * 512)
        given = run(set_(0, *d), set_(1, *e), over(0, 1, 1, 2), *reading(2), over(0, 1, 0, 3), *reading(3))
        self.assertEqual(given[2:], [[0], *told(([PUT, 512, KEEP, 512], [1] * 512)),
                                     [0], *told(([KEEP, 512, PUT, 512], [1] * 512))])

    def test_every_second_byte(self):
        d = [DROP, 1, PUT, 1, KEEP, 1] * 512, [n % 256 for n in range(512)]
        e = [KEEP, 1, PUT, 1, DROP, 1] * 512, [n % 251 for n in range(512)]
        for first in (0, 1):
            given = run(set_(0, *d), set_(1, *e), over(0, 1, first, 2), look(2), *reading(2))
            self.assertEqual(given[2:], [[0], [0, 1024, 1024, 512], *told(over_of(d, e, first == 1))])

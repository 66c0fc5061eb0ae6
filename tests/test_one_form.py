"""Promise 1: an edit has one written form, whatever items it came in."""

import itertools
import unittest

from tests.line import DROP, KEEP, PUT, apply, bytes_, items, look, run, set_
from tests.model import meaning, pairs_of


def ways():
    """Every row of up to four items of 0, 1 or 2."""
    one = list(itertools.product((KEEP, DROP, PUT), (0, 1, 2)))
    for size in range(5):
        for row in itertools.product(one, repeat=size):
            yield [number for item in row for number in item]


def octets_for(edit):
    return [50 + n for n in range(sum(count for kind, count in pairs_of(edit) if kind == PUT))]


class EveryWayOfSayingAnEdit(unittest.TestCase):
    def test_all_short_rows_of_items(self):
        forms = {}
        for edit in ways():
            octets = octets_for(edit)
            done, form, answered = run(set_(0, edit, octets), items(0), bytes_(0))
            self.assertEqual(done, [0])
            self.assertEqual(answered, [0, len(octets), *octets], edit)
            self.check_form(form, edit)
            self.assertEqual(forms.setdefault(meaning(edit), form), form, edit)

    def check_form(self, form, edit):
        pairs = pairs_of(form[1:])
        self.assertEqual(len(form), 1 + 2 * form[0], edit)
        self.assertNotIn(0, [count for kind, count in pairs], edit)
        for (before, n), (behind, m) in zip(pairs, pairs[1:]):
            self.assertNotEqual(before, behind, edit)
            self.assertNotEqual((before, behind), (DROP, PUT), edit)
        self.assertEqual(meaning(form[1:]), meaning(edit), edit)

    def test_all_short_rows_of_items_when_looked_at_and_applied(self):
        for edit in ways():
            octets = octets_for(edit)
            size, said = meaning(edit)
            old = [10 + p for p in range(size)]
            text = [old[at] if where == "old" else octets[at] for where, at in said]
            kept = sum(where == "old" for where, at in said)
            given = run(set_(0, edit, octets), look(0), apply(0, old))
            self.assertEqual(given, [[0], [0, size, len(said), kept], [0, len(text), *text]], edit)


class OneForm(unittest.TestCase):
    def assert_form(self, edit, octets, form):
        done, answered, put = run(set_(0, edit, octets), items(0), bytes_(0))
        self.assertEqual(done, [0])
        self.assertEqual(answered, [len(form) // 2, *form])
        self.assertEqual(put, [0, len(octets), *octets])
        again = run(set_(1, form, octets), items(1), bytes_(1))
        self.assertEqual(again, [[0], answered, put])

    def test_no_item_at_all(self):
        self.assert_form([], [], [])

    def test_items_of_nought_alone(self):
        self.assert_form([KEEP, 0, DROP, 0, PUT, 0], [], [])

    def test_items_of_nought_among_others(self):
        self.assert_form([DROP, 0, KEEP, 2, PUT, 0, KEEP, 1, DROP, 0], [], [KEEP, 3])

    def test_nought_between_two_of_a_kind(self):
        for kind, octets in ((KEEP, []), (DROP, []), (PUT, [1, 2, 3])):
            for between in (KEEP, DROP, PUT):
                with self.subTest(kind=kind, between=between):
                    self.assert_form([kind, 1, between, 0, kind, 2], octets, [kind, 3])

    def test_two_of_a_kind_side_by_side(self):
        edit = [KEEP, 1, KEEP, 2, DROP, 1, DROP, 1, KEEP, 1, PUT, 1, PUT, 2]
        self.assert_form(edit, [7, 8, 9], [KEEP, 3, DROP, 2, KEEP, 1, PUT, 3])

    def test_new_bytes_before_among_and_behind_dropped_ones(self):
        form = [KEEP, 1, PUT, 3, DROP, 3, KEEP, 1]
        for middle in (
            [PUT, 3, DROP, 3],
            [DROP, 3, PUT, 3],
            [DROP, 1, PUT, 3, DROP, 2],
            [PUT, 1, DROP, 1, PUT, 1, DROP, 1, PUT, 1, DROP, 1],
            [DROP, 1, PUT, 1, DROP, 1, PUT, 1, DROP, 1, PUT, 1],
            [PUT, 2, DROP, 2, KEEP, 0, DROP, 1, PUT, 1],
        ):
            with self.subTest(middle=middle):
                self.assert_form([KEEP, 1, *middle, KEEP, 1], [30, 20, 10], form)

    def test_new_bytes_with_dropped_ones_at_the_beginning_and_at_the_end(self):
        edit = [DROP, 2, PUT, 1, KEEP, 1, DROP, 1, PUT, 2, DROP, 1]
        self.assert_form(edit, [1, 2, 3], [PUT, 1, DROP, 2, KEEP, 1, PUT, 2, DROP, 2])

    def test_a_kept_byte_keeps_new_and_dropped_ones_apart(self):
        edit = [DROP, 1, KEEP, 1, PUT, 1, KEEP, 1, DROP, 1]
        self.assert_form(edit, [5], edit)

    def test_other_edits_have_other_forms(self):
        forms = [run(set_(0, edit, [9]), items(0))[1] for edit in (
            [PUT, 1, KEEP, 2], [KEEP, 1, PUT, 1, KEEP, 1], [KEEP, 2, PUT, 1],
            [PUT, 1, DROP, 1, KEEP, 1], [PUT, 1, KEEP, 1, DROP, 1], [PUT, 1, DROP, 2], [PUT, 1, KEEP, 3],
        )]
        self.assertEqual(len({tuple(form) for form in forms}), len(forms))

    def test_the_longest_form(self):
        # 512 times over: two old bytes and two new ones, as three items.
        form = [PUT, 1, DROP, 1, KEEP, 1] * 512
        self.assert_form([DROP, 1, PUT, 1, KEEP, 1] * 512, [n % 256 for n in range(512)], form)

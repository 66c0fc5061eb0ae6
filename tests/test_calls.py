"""The calls at ordinary inputs, alone and one after another."""

import unittest

from editslots.slots import answers
from tests.line import DROP, KEEP, PUT, apply, back, bytes_, items, look, over, place, run, same, set_, then

# "abcdef" becomes "abXYef".
EDIT = [KEEP, 2, PUT, 2, DROP, 2, KEEP, 2]
OLD = list(b"abcdef")


class FormOfAnswers(unittest.TestCase):
    def test_each_answer_has_its_length_before_it(self):
        line = [1, 3, 8, 0, 2, 2, 2, 1, 2, 0, 2, 2, 88, 89]
        line += [2, 3, 3, 3, 4, 3, 5, 3, 6, 97, 98, 99, 100, 101, 102]
        self.assertEqual(answers(line), [
            1, 0,
            4, 0, 6, 6, 4,
            9, 4, 0, 2, 2, 2, 1, 2, 0, 2,
            4, 0, 2, 88, 89,
            8, 0, 6, 97, 98, 88, 89, 101, 102,
        ])

    def test_a_refusal_is_its_number_alone(self):
        self.assertEqual(answers([2, 0]), [1, -1])
        self.assertEqual(answers([3, 0]), [1, -1])
        self.assertEqual(answers([4, 0]), [1, -1])
        self.assertEqual(answers([5, 0, 2, 7, 7]), [1, -1])
        self.assertEqual(answers([1, 0, 1, 0, 0]), [1, -1])

    def test_each_answer_of_the_later_five_has_its_length_before_it(self):
        line = [1, 0, 4, 0, 1, 2, 1, 1, 88]
        line += [1, 1, 4, 1, 1, 0, 1, 0]
        line += [6, 0, 1, 2, 3, 2, 4, 2]
        line += [7, 0, 3, 1, 97, 3, 3]
        line += [1, 4, 4, 2, 1, 0, 1, 1, 89, 8, 4, 0, 0, 5, 3, 5, 4, 5]
        line += [9, 5, 1, 0, 9, 5, 1, 1, 10, 0, 0, 10, 0, 1]
        self.assertEqual(answers(line), [
            1, 0,
            1, 0,
            1, 0, 5, 2, 2, 1, 1, 1, 3, 0, 1, 88,
            1, 0, 5, 2, 0, 1, 1, 1,
            1, 0, 1, 0, 5, 2, 2, 1, 0, 2, 3, 0, 1, 89,
            2, 0, 2, 2, 0, 2, 1, 1, 1, 0,
        ])

    def test_a_refusal_of_the_later_five_is_its_number_alone(self):
        self.assertEqual(answers([6, 0, 1, 2]), [1, -1])
        self.assertEqual(answers([7, 0, 1, 3, 9, 9, 9]), [1, -1])
        self.assertEqual(answers([8, 0, 1, 1, 2]), [1, -1])
        self.assertEqual(answers([9, 0, 0, 1]), [1, -1])
        self.assertEqual(answers([10, 0, 1]), [1, -1])

    def test_a_list_of_whole_numbers_is_given_back(self):
        line = set_(0, EDIT, b"XY") + look(0) + items(0) + bytes_(0) + apply(0, OLD)
        line += then(0, 0, 1) + back(0, 1, OLD) + over(0, 1, 1, 1) + place(1, 0, 1) + same(0, 1) + items(1)
        given = answers(line)
        self.assertIs(type(given), list)
        self.assertEqual({type(number) for number in given}, {int})


class EachCall(unittest.TestCase):
    def after_set(self, call, edit=EDIT, octets=b"XY"):
        done, answer = run(set_(5, edit, octets), call)
        self.assertEqual(done, [0])
        return answer

    def test_set(self):
        self.assertEqual(run(set_(0, EDIT, b"XY")), [[0]])

    def test_look(self):
        self.assertEqual(self.after_set(look(5)), [0, 6, 6, 4])

    def test_look_tells_old_new_and_kept_apart(self):
        self.assertEqual(self.after_set(look(5), [KEEP, 3, DROP, 7, PUT, 1], b"!"), [0, 10, 4, 3])

    def test_look_at_nothing_kept(self):
        self.assertEqual(self.after_set(look(5), [DROP, 5, PUT, 2], b"ab"), [0, 5, 2, 0])

    def test_items(self):
        self.assertEqual(self.after_set(items(5)), [4, *EDIT])

    def test_items_of_one_kind_alone(self):
        for kind, octets in ((KEEP, b""), (DROP, b""), (PUT, b"abc")):
            with self.subTest(kind=kind):
                self.assertEqual(self.after_set(items(5), [kind, 3], octets), [1, kind, 3])

    def test_bytes(self):
        self.assertEqual(self.after_set(bytes_(5)), [0, 2, 88, 89])

    def test_bytes_of_several_places_stand_in_order(self):
        edit = [PUT, 1, KEEP, 1, PUT, 2, DROP, 1, KEEP, 1, PUT, 1]
        self.assertEqual(self.after_set(bytes_(5), edit, [4, 3, 2, 1]), [0, 4, 4, 3, 2, 1])

    def test_bytes_where_there_are_none(self):
        self.assertEqual(self.after_set(bytes_(5), [KEEP, 2, DROP, 1], b""), [0, 0])

    def test_apply(self):
        self.assertEqual(self.after_set(apply(5, OLD)), [0, 6, *b"abXYef"])

    def test_apply_takes_new_bytes_in_order(self):
        edit = [PUT, 1, KEEP, 1, PUT, 2, DROP, 1, KEEP, 1, PUT, 1]
        self.assertEqual(self.after_set(apply(5, b"abc"), edit, b"1234"), [0, 6, *b"1a23c4"])

    def test_apply_that_drops_all(self):
        self.assertEqual(self.after_set(apply(5, b"abc"), [DROP, 3], b""), [0, 0])

    def test_apply_takes_the_same_byte_from_its_own_place(self):
        self.assertEqual(self.after_set(apply(5, b"aaba"), [DROP, 2, KEEP, 2], b""), [0, 2, *b"ba"])


class OneAfterAnother(unittest.TestCase):
    def test_each_slot_has_its_own_edit(self):
        sets = [set_(k, [KEEP, k + 1, PUT, 1], [100 + k]) for k in range(8)]
        asked = []
        asked_for = []
        for i in reversed(range(8)):
            old = list(range(i + 1))
            asked += [look(i), items(i), bytes_(i), apply(i, old)]
            asked_for += [
                [0, i + 1, i + 2, i + 1],
                [2, KEEP, i + 1, PUT, 1],
                [0, 1, 100 + i],
                [0, i + 2, *old, 100 + i],
            ]
        self.assertEqual(run(*sets, *asked), [[0]] * 8 + asked_for)

    def test_a_later_set_takes_the_place_of_the_earlier(self):
        given = run(set_(2, EDIT, b"XY"), set_(2, [PUT, 1], b"z"), look(2), items(2), bytes_(2), apply(2))
        self.assertEqual(given[2:], [[0, 0, 1, 0], [1, PUT, 1], [0, 1, 122], [0, 1, 122]])

    def test_the_calls_that_read_change_nothing(self):
        asked = [look(1), items(1), bytes_(1), apply(1, OLD)]
        given = run(set_(1, EDIT, b"XY"), *asked, *asked, look(0))
        self.assertEqual(given[1:5], given[5:9])
        self.assertEqual(given[9], [-1])

    def test_apply_is_done_on_the_text_that_it_is_given(self):
        given = run(set_(0, [DROP, 1, KEEP, 1], []), apply(0, b"ab"), apply(0, b"cd"), apply(0, b"ab"))
        self.assertEqual(given[1:], [[0, 1, 98], [0, 1, 100], [0, 1, 98]])


class LaterFiveBehindOneAnother(unittest.TestCase):
    def test_two_who_write_at_the_same_time(self):
        # "abcdef": one replaces "cd" by "XY", the other puts "!" at the end and drops "a".
        given = run(
            set_(0, EDIT, b"XY"), set_(1, [DROP, 1, KEEP, 5, PUT, 1], b"!"),
            over(1, 0, 0, 2), then(0, 2, 3), apply(3, OLD),
            over(0, 1, 1, 4), then(1, 4, 5), apply(5, OLD),
            same(3, 5), place(3, 3, 0), place(3, 3, 1),
            back(3, 6, OLD), apply(6, b"bXYef!"), items(6), bytes_(6), look(6),
        )
        text = [0, 6, *b"bXYef!"]
        self.assertEqual(given, [
            [0], [0],
            [0], [0], text,
            [0], [0], text,
            [1], [0, 1], [0, 3],
            [0], [0, 6, *OLD], [6, PUT, 1, KEEP, 1, PUT, 2, DROP, 2, KEEP, 2, DROP, 1], [0, 3, *b"acd"], [0, 6, 6, 3],
        ])

    def test_one_takes_back_what_lies_under_anothers_edit(self):
        # "ab" becomes "aXb", then "aXbZ"; taking back the first, led over the second, leaves "abZ".
        given = run(
            set_(0, [KEEP, 1, PUT, 1, KEEP, 1], b"X"), set_(1, [KEEP, 3, PUT, 1], b"Z"),
            back(0, 2, b"ab"), over(2, 1, 0, 2), apply(2, b"aXbZ"), items(2),
        )
        self.assertEqual(given[2:], [[0], [0], [0, 3, *b"abZ"], [3, KEEP, 1, DROP, 1, KEEP, 2]])

    def test_an_edit_made_by_a_call_is_set_anew(self):
        given = run(set_(0, [KEEP, 1]), then(0, 0, 1), same(0, 1), set_(1, [DROP, 1]), same(0, 1), then(0, 1, 0),
                    same(0, 1))
        self.assertEqual(given, [[0], [0], [1], [0], [0], [0], [1]])

    def test_all_eight_slots_are_written(self):
        for k in range(8):
            i = (k + 1) % 8
            given = run(set_(i, [KEEP, 1]), then(i, i, k), look(k), set_(k, []), back(i, k, [1]), look(k),
                        set_(k, []), over(i, i, 0, k), look(k))
            self.assertEqual(given, [[0], [0], [0, 1, 1, 1]] * 3)


class OldTextOfLengthNought(unittest.TestCase):
    def test_only_new_bytes(self):
        given = run(set_(0, [PUT, 3], b"new"), look(0), items(0), bytes_(0), apply(0))
        self.assertEqual(given, [[0], [0, 0, 3, 0], [1, PUT, 3], [0, 3, *b"new"], [0, 3, *b"new"]])

    def test_no_item_at_all(self):
        given = run(set_(7, []), look(7), items(7), bytes_(7), apply(7))
        self.assertEqual(given, [[0], [0, 0, 0, 0], [0], [0, 0], [0, 0]])

"""What the interface says of answers as a whole."""

import ast
import contextlib
import io
import pathlib
import unittest

import editslots.slots
from editslots.slots import answers
from tests.line import (
    DROP, KEEP, LARGEST, PUT, apply, back, bytes_, items, look, over, place, readings, run, same, set_, then,
)

PACKAGE = pathlib.Path(editslots.slots.__file__).parent


class Unchanging(list):
    """A list that can be read but not changed, not for a while either."""

    def refuse(self, *args, **named):
        raise AssertionError("what is handed in is changed")

    append = extend = insert = pop = remove = clear = sort = reverse = refuse
    __setitem__ = __delitem__ = __iadd__ = __imul__ = refuse


def mixed_line():
    """Calls of all ten kinds, with refusals of each among them."""
    calls = [
        set_(0, [DROP, 1, PUT, 2, DROP, 1, KEEP, 0, KEEP, 1], [0, 255]), look(0), items(0), bytes_(0),
        apply(0, [1, 2, 3]), apply(0, [1, 2]), apply(1, [1]), set_(1, []), items(1), look(LARGEST),
        set_(2, [3, 1]), set_(0, [KEEP]), set_(0, [KEEP, 1025]), set_(0, [KEEP, 0] * 2050), bytes_(2),
        set_(3, [KEEP, 1, PUT, 1, DROP, 2], [7]), then(0, 0, 4), then(0, 9, 4), then(0, 3, 4), back(0, 5, [1, 2, 3]),
        back(0, 5, [1]), back(6, 5), over(0, 3, 1, 6), over(3, 0, 0, 7), over(0, 1, 0, 0), over(0, 3, 0, 8),
        set_(1, [PUT, 600], [1] * 600), over(1, 1, 0, 1), place(6, 1, 1), place(6, 1, 0), place(6, 9, 0),
        place(8, 0, 0), same(0, 3), same(3, 3), same(8, 3), then(0, 4, 0), back(3, 3, [4, 5, 6]),
        *readings(),
    ]
    return [number for call in calls for number in call]


class WhatIsHandedIn(unittest.TestCase):
    def test_it_is_the_same_after_as_before(self):
        line = mixed_line()
        before = list(line)
        answers(line)
        self.assertEqual(line, before)

    def test_it_is_not_changed_for_a_while_either(self):
        self.assertEqual(answers(Unchanging(mixed_line())), answers(mixed_line()))

    def test_what_is_given_back_is_a_list_of_its_own(self):
        line = mixed_line()
        before = list(line)
        given = answers(line)
        self.assertIsNot(given, line)
        given.clear()
        self.assertEqual(line, before)


class NothingIsKept(unittest.TestCase):
    def test_a_second_time_answers_the_same(self):
        line = mixed_line()
        first = list(answers(line))
        self.assertEqual(answers(line), first)
        self.assertEqual(answers(list(line)), first)

    def test_changing_what_was_given_back_changes_nothing_later(self):
        line = mixed_line()
        given = answers(line)
        first = list(given)
        given.reverse()
        self.assertEqual(answers(line), first)

    def test_slots_of_an_earlier_line_are_empty_in_the_next(self):
        run(*[set_(k, [KEEP, 1]) for k in range(8)])
        self.assertEqual(run(*readings()), [[-1]] * 24)


class LongLines(unittest.TestCase):
    def test_one_call(self):
        self.assertEqual(answers(set_(0, [])), [1, 0])

    def test_400_calls(self):
        calls = []
        expected = []
        for n in range(80):
            k = n * 3 % 8
            calls += [set_(k, [KEEP, n, PUT, 1], [n]), look(k), items(k), bytes_(k), apply(k, [200] * n)]
            form = [2, KEEP, n, PUT, 1] if n > 0 else [1, PUT, 1]
            expected += [[0], [0, n, n + 1, n], form, [0, 1, n], [0, n + 1, *[200] * n, n]]
        self.assertEqual(len(calls), 400)
        self.assertEqual(run(*calls), expected)

    def test_400_calls_that_are_refused(self):
        self.assertEqual(answers(look(8) * 400), [1, -1] * 400)
        self.assertEqual(answers(then(8, 0, 0) * 400), [1, -1] * 400)

    def test_400_calls_of_the_later_five(self):
        # Each round puts one more new byte at the end of an edit that keeps one old byte.
        calls = [set_(0, [KEEP, 1]), set_(1, [KEEP, 1, PUT, 1], [7])]
        expected = [[0], [0]]
        for n in range(1, 80):
            calls += [over(1, 0, 0, 2), then(0, 2, 0), place(0, 1, 1), back(0, 3, [9]), same(0, 3)]
            expected += [[0], [0], [0, n + 1], [0], [0]]
        calls += [look(0), look(3), apply(0, [5])]
        expected += [[0, 1, 80, 1], [0, 80, 1, 1], [0, 80, 5, *[7] * 79]]
        self.assertEqual(len(calls), 400)
        self.assertEqual(run(*calls), expected)

    def test_400_calls_on_texts_of_1024(self):
        calls = [set_(0, [KEEP, 1, DROP, 1, PUT, 1] * 512, [1] * 512)]
        calls += [set_(1, [DROP, 1, PUT, 1, KEEP, 1] * 512, [2] * 512)]
        calls += [then(0, 1, 2), over(0, 1, 1, 3), place(2, 512, 1), same(2, 3)] * 99 + [look(2), look(3)]
        expected = [[0], [0]] + [[0], [0], [0, 1024], [0]] * 99 + [[0, 1024, 1024, 0], [0, 1024, 1024, 512]]
        self.assertEqual(len(calls), 400)
        self.assertEqual(run(*calls), expected)

    def test_30000_numbers(self):
        octets = [n % 256 for n in range(1024)]
        fill = [set_(k, [DROP, 1, PUT, 1] * 1024 + [KEEP, 0], octets) for k in range(5)]
        last = [set_(5, [KEEP, 0] * 2000 + [PUT, 344], [7] * 344), *[look(5)] * 10]
        line = [number for call in fill + last for number in call]
        self.assertEqual(len(line), 30000)
        self.assertEqual(run(*fill, *last), [[0]] * 6 + [[0, 0, 344, 0]] * 10)

    def test_30000_numbers_with_the_later_five(self):
        text = [p % 256 for p in range(1024)]
        start = [set_(0, [DROP, 1024, PUT, 1024], text[::-1])]
        rounds = [back(0, 0, text), same(0, 0), place(0, 1024, 1)] * 27
        end = [then(0, 0, 1), same(0, 1), over(0, 0, 0, 2), back(0, 2, [1] * 1007)]
        self.assertEqual(sum(len(call) for call in start + rounds + end), 30000)
        expected = [[0]] + [[0], [1], [0, 1024]] * 27 + [[0], [1], [-3], [-2]]
        self.assertEqual(run(*start, *rounds, *end), expected)


class NothingIsPrintedReadOrImported(unittest.TestCase):
    def test_nothing_is_printed(self):
        out = io.StringIO()
        with contextlib.redirect_stdout(out), contextlib.redirect_stderr(out):
            answers(mixed_line())
        self.assertEqual(out.getvalue(), "")

    def test_the_package_imports_only_its_own_files_and_calls_nothing_that_reads(self):
        for path in sorted(PACKAGE.glob("*.py")):
            for node in ast.walk(ast.parse(path.read_text(encoding="utf-8"))):
                self.assertNotIsInstance(node, ast.Import, path.name)
                if isinstance(node, ast.ImportFrom):
                    self.assertTrue(node.module.startswith("editslots."), path.name)
                if isinstance(node, ast.Name):
                    self.assertNotIn(node.id, ("print", "open", "input", "eval", "exec", "__import__"), path.name)

    def test_nothing_but_python_files_lies_in_the_package(self):
        others = [path.name for path in PACKAGE.iterdir() if path.suffix != ".py" and path.name != "__pycache__"]
        self.assertEqual(others, [])

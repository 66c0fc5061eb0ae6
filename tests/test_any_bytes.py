"""Promise 7: any bytes."""

import unittest

from tests.line import DROP, KEEP, PUT, apply, bytes_, items, run, set_

ALL = list(range(256))


class AnyBytes(unittest.TestCase):
    def test_all_at_once_as_new_bytes(self):
        given = run(set_(0, [PUT, 256], ALL), items(0), bytes_(0), apply(0))
        self.assertEqual(given, [[0], [1, PUT, 256], [0, 256, *ALL], [0, 256, *ALL]])

    def test_all_at_once_as_old_bytes(self):
        given = run(set_(0, [KEEP, 256]), bytes_(0), apply(0, ALL), apply(0, ALL[::-1]))
        self.assertEqual(given, [[0], [0, 0], [0, 256, *ALL], [0, 256, *ALL[::-1]]])

    def test_each_alone_as_new_old_and_dropped_byte(self):
        for octet in ALL:
            other = 255 - octet
            given = run(set_(0, [KEEP, 1, DROP, 1, PUT, 1], [octet]), items(0), bytes_(0), apply(0, [other, octet]))
            self.assertEqual(given[1:], [[3, KEEP, 1, PUT, 1, DROP, 1], [0, 1, octet], [0, 2, other, octet]])

    def test_new_bytes_among_old_ones_of_the_same_value(self):
        for octet in (0, 1, 127, 128, 254, 255):
            given = run(set_(0, [KEEP, 2, PUT, 2, KEEP, 2], [octet] * 2), items(0), apply(0, [octet] * 4))
            self.assertEqual(given[1:], [[3, KEEP, 2, PUT, 2, KEEP, 2], [0, 6, *[octet] * 6]])

"""Promise 7: any bytes."""

import unittest

from tests.line import DROP, KEEP, PUT, apply, back, bytes_, items, over, reading, run, same, set_, then
from tests.model import told

ALL = list(range(256))


class AnyBytes(unittest.TestCase):
    def test_all_at_once_as_new_bytes(self):
        given = run(set_(0, [PUT, 256], ALL), items(0), bytes_(0), apply(0))
        self.assertEqual(given, [[0], [1, PUT, 256], [0, 256, *ALL], [0, 256, *ALL]])

    def test_all_at_once_as_old_bytes(self):
        given = run(set_(0, [KEEP, 256]), bytes_(0), apply(0, ALL), apply(0, ALL[::-1]))
        self.assertEqual(given, [[0], [0, 0], [0, 256, *ALL], [0, 256, *ALL[::-1]]])

    def test_each_alone_as_new_old_and_dropped_byte(self):
        for octet in ALL:
            other = 255 - octet
            given = run(set_(0, [KEEP, 1, DROP, 1, PUT, 1], [octet]), items(0), bytes_(0), apply(0, [other, octet]))
            self.assertEqual(given[1:], [[3, KEEP, 1, PUT, 1, DROP, 1], [0, 1, octet], [0, 2, other, octet]])

    def test_new_bytes_among_old_ones_of_the_same_value(self):
        for octet in (0, 1, 127, 128, 254, 255):
            given = run(set_(0, [KEEP, 2, PUT, 2, KEEP, 2], [octet] * 2), items(0), apply(0, [octet] * 4))
            self.assertEqual(given[1:], [[3, KEEP, 2, PUT, 2, KEEP, 2], [0, 6, *[octet] * 6]])


class AnyBytesThroughThenBackAndOver(unittest.TestCase):
    def test_all_at_once_through_then(self):
        turned = ALL[::-1]
        given = run(set_(0, [PUT, 256], ALL), set_(1, [KEEP, 256, PUT, 256], turned), then(0, 1, 2), *reading(2),
                    apply(2))
        self.assertEqual(given[2:], [[0], *told(([PUT, 512], ALL + turned)), [0, 512, *ALL, *turned]])

    def test_all_at_once_through_back(self):
        given = run(set_(0, [DROP, 256]), back(0, 1, ALL), *reading(1), apply(1), back(1, 2), same(0, 2))
        self.assertEqual(given[1:], [[0], *told(([PUT, 256], ALL)), [0, 256, *ALL], [0], [1]])

    def test_all_at_once_through_over(self):
        turned = ALL[::-1]
        given = run(set_(0, [KEEP, 256, PUT, 256], ALL), set_(1, [KEEP, 256, PUT, 256], turned), over(0, 1, 0, 2),
                    *reading(2), apply(2, ALL + turned), over(0, 1, 1, 3), *reading(3), apply(3, ALL + turned))
        self.assertEqual(given[2:], [
            [0], *told(([KEEP, 512, PUT, 256], ALL)), [0, 768, *ALL, *turned, *ALL],
            [0], *told(([KEEP, 256, PUT, 256, KEEP, 256], ALL)), [0, 768, *ALL, *ALL, *turned],
        ])

    def test_each_alone_through_then(self):
        for octet in ALL:
            given = run(set_(0, [KEEP, 1, PUT, 1], [octet]), set_(1, [DROP, 1, KEEP, 1, PUT, 1], [255 - octet]),
                        then(0, 1, 2), *reading(2), apply(2, [octet]))
            self.assertEqual(given[2:], [[0], *told(([PUT, 2, DROP, 1], [octet, 255 - octet])),
                                         [0, 2, octet, 255 - octet]])

    def test_each_alone_through_back(self):
        for octet in ALL:
            given = run(set_(0, [KEEP, 1, DROP, 1, PUT, 1], [octet]), back(0, 1, [octet, 255 - octet]), *reading(1),
                        apply(1, [octet, octet]))
            self.assertEqual(given[1:], [[0], *told(([KEEP, 1, PUT, 1, DROP, 1], [255 - octet])),
                                         [0, 2, octet, 255 - octet]])

    def test_each_alone_through_over(self):
        for octet in ALL:
            given = run(set_(0, [KEEP, 1, PUT, 1], [octet]), set_(1, [KEEP, 1, PUT, 1], [255 - octet]),
                        over(0, 1, 1, 2), *reading(2), apply(2, [octet, 255 - octet]))
            self.assertEqual(given[2:], [[0], *told(([KEEP, 1, PUT, 1, KEEP, 1], [octet])),
                                         [0, 3, octet, octet, 255 - octet]])

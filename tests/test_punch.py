"""punch: the strip that a program makes, and bytes that are no right program.

What is refused of bytes is the same of punch, busy and short, and is tested of all three.
"""

import itertools
import unittest

from tests.helper import (EXAMPLE, HIGHEST, alone, ask, busy, counted, fill, holes, punch, read, row, short, size,
                          slots, text, text_of_rows)
from tests.samples import punched, right_programs

OF_BYTES = (punch, busy, short)


def expected_fault(width, given):
    """The fault by the document's words; None for a right program."""
    for place, byte in enumerate(given):
        wrong_punch = byte >= 128 and byte - 128 not in range(width)
        rows = sum(earlier for earlier in given[:place + 1] if earlier < 128)
        if wrong_punch or byte < 128 and rows > 256 or 0 in given[:place]:
            return place
    return None if 0 in given else len(given)


class Made(unittest.TestCase):
    def check(self, width, given, expected):
        self.assertEqual(ask(punch(width, given), text(0)), [alone(0), (len(expected), [], expected)], given)

    def test_example(self):
        self.check(4, [128, 131, 2, 128, 131, 1, 128, 1, 0], EXAMPLE)

    def test_the_end_alone(self):
        for width in (1, 4, 88, 128):
            self.check(width, [0], "strip %d\n" % width)

    def test_punches_are_up_at_first(self):
        self.check(4, [3, 0], "strip 4\n3\n")

    def test_holes_where_punches_are_down(self):
        self.check(4, [131, 1, 128, 1, 129, 130, 2, 0], "strip 4\n1 3\n1 0 3\n2 0 1 2 3\n")

    def test_a_punch_turned_twice_is_up_again(self):
        self.check(4, [129, 129, 1, 0], "strip 4\n1\n")
        self.check(4, [129, 1, 129, 2, 129, 1, 0], "strip 4\n1 1\n2\n1 1\n")
        self.check(4, [129, 130, 129, 1, 129, 129, 129, 1, 0], "strip 4\n1 2\n1 1 2\n")

    def test_punches_turned_in_any_order(self):
        self.check(9, [136, 128, 132, 1, 0], "strip 9\n1 0 4 8\n")

    def test_turned_without_rows_behind(self):
        self.check(4, [128, 129, 0], "strip 4\n")
        self.check(4, [2, 128, 129, 0], "strip 4\n2\n")

    def test_rows_with_the_same_holes_are_one_run(self):
        self.check(4, [128, 1, 2, 3, 129, 129, 4, 0], "strip 4\n10 0\n")

    def test_last_punch(self):
        for width in (1, 2, 4, 127, 128):
            self.check(width, [127 + width, 1, 0], "strip %d\n1 %d\n" % (width, width - 1))

    def test_256_rows(self):
        self.check(4, [127, 127, 2, 0], "strip 4\n256\n")
        self.check(4, [128, 127, 128, 127, 128, 2, 0], "strip 4\n127 0\n127\n2 0\n")
        self.check(4, [1] * 256 + [0], "strip 4\n256\n")
        self.check(1, [128, 1] * 256 + [0], "strip 1\n" + "1 0\n1\n" * 128)

    def test_turned_behind_the_256th_row(self):
        self.check(4, [127, 127, 2, 128, 131, 0], "strip 4\n256\n")

    def test_long_programs(self):
        self.check(128, [255] * 28998 + [1, 0], "strip 128\n1\n")
        self.check(128, [255] * 28997 + [1, 0], "strip 128\n1 127\n")

    def test_what_is_told_of_it(self):
        told = ask(punch(9, [136, 2, 128, 1, 136, 3, 0]), size(0), row(0, 2), holes(0), slots(0))
        self.assertEqual(told[1:], [(0, [9, 6, 3], ""), (2, [0, 8], ""), alone(7), (2, [8, 0, 3, 0, 2, 4], "")])

    def test_some_programs(self):
        for width, given in right_programs():
            self.check(width, given, text_of_rows(width, punched(given)))

    def test_numbers_as_they_came(self):
        told = ask(read("strip 3\n"), punch(4, [0]), fill(5, 0, []), punch(6, [0]), size(3))
        self.assertEqual(told[1:], [alone(1), alone(2), alone(3), (0, [6, 0, 0], "")])


class Faults(unittest.TestCase):
    def check(self, width, given, place):
        for call in OF_BYTES:
            told = ask(call(width, given), size(0))
            self.assertEqual(told, [(-6, [place], ""), alone(-4)], (width, given))
        self.assertEqual(expected_fault(width, given), place)

    def test_document_examples(self):
        self.check(4, [132, 0], 0)
        self.check(4, [1, 0, 1], 2)
        self.check(4, [1], 1)
        self.check(4, [], 0)

    def test_a_punch_from_the_width_on(self):
        for width in (1, 2, 4, 127):
            self.check(width, [128 + width, 1, 0], 0)
            self.check(width, [1, 127 + width, 128 + width, 0], 2)
            self.check(width, [255, 0], 0)

    def test_width_128_has_every_punch(self):
        self.assertEqual(ask(punch(128, list(range(128, 256)) + [0])), [alone(0)])

    def test_rows_above_256(self):
        self.check(4, [127, 127, 3, 0], 2)
        self.check(4, [127, 127, 127, 0], 2)
        self.check(4, [127, 127, 2, 1, 0], 3)
        self.check(4, [127, 127, 2, 128, 1, 0], 4)
        self.check(4, [1] * 257 + [0], 256)
        self.check(4, [2, 127, 126, 127, 0], 3)

    def test_a_wrong_punch_behind_256_rows(self):
        self.check(4, [127, 127, 2, 131, 132, 0], 4)

    def test_behind_an_end(self):
        for more in ([0], [1], [128], [255], [0, 0, 0], [1, 0]):
            self.check(4, [0] + more, 1)
            self.check(4, [128, 1, 0] + more, 3)

    def test_no_end(self):
        self.check(4, [128], 1)
        self.check(4, [128, 1, 129], 3)
        self.check(4, [127, 127, 2], 3)

    def test_no_end_of_many_bytes(self):
        for call in OF_BYTES:
            self.assertEqual(ask(call(4, [128] * 29000)), [(-6, [29000], "")])

    def test_the_first_of_several(self):
        self.check(4, [132, 127, 127, 127, 0, 0], 0)
        self.check(4, [127, 127, 127, 132, 0, 0], 2)
        self.check(4, [1, 0, 132, 127, 127, 127], 2)
        self.check(4, [1, 132], 1)
        self.check(4, [127, 127, 127], 2)

    def test_every_short_row_of_bytes(self):
        for length in range(5):
            for given in itertools.product((0, 1, 2, 3, 127, 128, 129, 130, 255), repeat=length):
                place = expected_fault(2, list(given))
                wanted = alone(0) if place is None else (-6, [place], "")
                self.assertEqual(ask(punch(2, given))[0], wanted, given)
                told = ask(busy(2, given), short(2, given))
                self.assertEqual([answer[0] == -6 for answer in told], [place is not None] * 2, given)


class OutOfRange(unittest.TestCase):
    def test_width(self):
        for width in (0, 129, 255, 256, 65536, HIGHEST):
            for call in OF_BYTES:
                self.assertEqual(ask(call(width, [0]), size(0)), [alone(-1), alone(-4)])

    def test_lowest_and_highest_width(self):
        for width in (1, 128):
            told = ask(punch(width, [127 + width, 1, 0]), busy(width, [127 + width, 1, 0]),
                       short(width, [127 + width, 1, 0]))
            self.assertEqual(told, [alone(0), (0, [1, 1, 1, 1], ""), counted([127 + width, 1, 0])])

    def test_it_comes_first(self):
        for width in (0, 129, HIGHEST):
            for call in OF_BYTES:
                self.assertEqual(ask(call(width, []), call(width, [255]), call(width, [0] * 65537)), [alone(-1)] * 3)


class TooLong(unittest.TestCase):
    def test_65536_bytes_are_taken(self):
        given = [128] * 65535 + [0]
        told = ask(punch(4, given), busy(4, given), short(4, given))
        self.assertEqual(told, [alone(0), (0, [0, 0, 65535, 0], ""), counted([0])])

    def test_one_more_is_refused(self):
        for call in OF_BYTES:
            self.assertEqual(ask(call(4, [128] * 65536 + [0]), size(0)), [alone(-2), alone(-4)])

    def test_it_comes_before_a_fault(self):
        for call in OF_BYTES:
            self.assertEqual(ask(call(4, [255] * 65537)), [alone(-2)])
            self.assertEqual(ask(call(4, [255] * 65536)), [(-6, [0], "")])
            self.assertEqual(ask(call(4, [128] * 65536)), [(-6, [65536], "")])

"""part: some of a strip's rows, one behind another."""

import unittest

from tests.helper import (EXAMPLE, HIGHEST, alone, ask, diff, fill, part, read, row, size, slots, text,
                          text_of_rows)
from tests.samples import larger_strips, small_strips

EXAMPLE_ROWS = [[0, 3], [0, 3], [], [0]]


class Made(unittest.TestCase):
    def check(self, given, i, k, expected):
        self.assertEqual(ask(read(given), part(0, i, k), text(1))[1:],
                         [alone(1), (len(expected), [], expected)], (i, k))

    def test_every_part_of_the_example(self):
        for i in range(5):
            for k in range(5 - i):
                self.check(EXAMPLE, i, k, text_of_rows(4, EXAMPLE_ROWS[i:i + k]))

    def test_within_a_run(self):
        self.check("strip 9\n100 2\n100 3\n", 98, 5, "strip 9\n2 2\n3 3\n")
        self.check("strip 9\n100 2\n100 3\n", 10, 20, "strip 9\n20 2\n")

    def test_no_rows(self):
        for i in range(5):
            self.check(EXAMPLE, i, 0, "strip 4\n")
        self.check("strip 4\n", 0, 0, "strip 4\n")

    def test_all_rows(self):
        self.check(EXAMPLE, 0, 4, EXAMPLE)
        self.check("strip 128\n255 127\n1 0\n", 0, 256, "strip 128\n255 127\n1 0\n")

    def test_just_up_to_the_last_row(self):
        self.check(EXAMPLE, 3, 1, "strip 4\n1 0\n")
        self.check("strip 1\n255\n1 0\n", 255, 1, "strip 1\n1 0\n")
        self.check("strip 1\n255\n1 0\n", 256, 0, "strip 1\n")
        self.check("strip 1\n255\n1 0\n", 1, 255, "strip 1\n254\n1 0\n")

    def test_width_stays(self):
        for width in (1, 4, 128):
            self.assertEqual(ask(fill(width, 9, []), part(0, 3, 4), size(1))[2], (0, [width, 4, 1], ""))

    def test_slots_are_cut(self):
        told = ask(fill(4, 9, [(2, 0, 9), (0, 3, 2), (1, 6, 1)]), part(0, 4, 2), slots(1), row(1, 0), row(1, 2))
        self.assertEqual(told[2:], [(2, [0, 0, 1, 2, 0, 2], ""), (2, [0, 2], ""), alone(-4)])

    def test_the_strip_itself_stays_as_it_was(self):
        told = ask(read(EXAMPLE), part(0, 1, 2), part(0, 4, 0), text(0), part(1, 0, 1), text(1))
        self.assertEqual(told[3:], [(20, [], EXAMPLE), alone(3), (16, [], "strip 4\n1 0 3\n1\n")])

    def test_small_strips(self):
        for width, rows in small_strips():
            whole = len(rows)
            calls, expected = [read(text_of_rows(width, rows))], [alone(0)]
            for i, k in [(0, whole), (0, whole // 2), (whole // 2, whole - whole // 2), (whole, 0)]:
                given = text_of_rows(width, rows[i:i + k])
                calls += [part(0, i, k), text((len(calls) + 1) // 2)]
                expected += [alone((len(expected) + 1) // 2), (len(given), [], given)]
            calls.append(diff(0, 1))
            self.assertEqual(ask(*calls), expected + [alone(0)])

    def test_larger_strips(self):
        for width, rows in larger_strips():
            third = len(rows) // 3
            for i, k in [(third, third), (0, third), (third, len(rows) - third)]:
                self.check(text_of_rows(width, rows), i, k, text_of_rows(width, rows[i:i + k]))


class MoreThanItsRows(unittest.TestCase):
    def check(self, given, i, k):
        # No list is told for this refusal, so it is the number alone.
        self.assertEqual(ask(read(given), part(0, i, k), size(1))[1:], [alone(-3), alone(-4)], (i, k))

    def test_one_more(self):
        for i in range(7):
            self.check(EXAMPLE, i, max(0, 5 - i))
        self.check("strip 4\n", 0, 1)
        self.check("strip 4\n", 1, 0)
        self.check("strip 4\n256\n", 0, 257)
        self.check("strip 4\n256\n", 256, 1)
        self.check("strip 4\n256\n", 257, 0)

    def test_no_rows_from_behind_the_last_on(self):
        self.check(EXAMPLE, 5, 0)
        self.check(EXAMPLE, HIGHEST, 0)

    def test_highest_numbers(self):
        for i, k in [(0, HIGHEST), (1, HIGHEST), (HIGHEST, 1), (HIGHEST, 2), (HIGHEST, 5), (HIGHEST, HIGHEST),
                     (2147483648, 2147483648), (4294967292, 4), (4, 4294967292)]:
            self.check(EXAMPLE, i, k)


class NotThere(unittest.TestCase):
    def test_it_comes_before_more_than_its_rows(self):
        self.assertEqual(ask(part(0, 0, 0), part(0, HIGHEST, HIGHEST)), [alone(-4)] * 2)
        for s in (1, 32, HIGHEST):
            self.assertEqual(ask(read(EXAMPLE), part(s, 0, 0), part(s, 9, 9), size(1))[1:], [alone(-4)] * 3)

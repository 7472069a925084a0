"""program: the shortest bytes by which a machine punches a strip; A4."""

import unittest

from tests.helper import (EXAMPLE, HIGHEST, alone, ask, counted, diff, fill, moved, part, program, punch, read, size,
                          text_of_rows, turned)
from tests.samples import fewest_bytes, program_of_rows, punched, small_strips, some_strips


class Told(unittest.TestCase):
    def check(self, given, expected):
        self.assertEqual(ask(read(given), program(0))[1], counted(expected), given)

    def test_example(self):
        self.check(EXAMPLE, [128, 131, 2, 128, 131, 1, 128, 1, 0])

    def test_no_rows_are_the_end_alone(self):
        self.check("strip 1\n", [0])
        self.check("strip 128\n", [0])

    def test_a_run_without_holes_comes_first(self):
        self.check("strip 4\n5\n", [5, 0])
        self.check("strip 4\n5\n1 2\n", [5, 130, 1, 0])

    def test_only_what_differs_is_turned_the_lowest_first(self):
        self.check("strip 9\n1 2 5 8\n3 0 5 7\n", [130, 133, 136, 1, 128, 130, 135, 136, 3, 0])

    def test_punches_stay_down_at_the_end(self):
        self.check("strip 4\n1 0 1 2 3\n", [128, 129, 130, 131, 1, 0])

    def test_widths_1_and_128(self):
        self.check("strip 1\n1 0\n1\n", [128, 1, 128, 1, 0])
        self.check("strip 128\n1 0 127\n1 127\n", [128, 255, 1, 128, 1, 0])

    def test_every_punch(self):
        whole = " ".join(str(track) for track in range(128))
        self.check("strip 128\n256 " + whole + "\n", list(range(128, 256)) + [127, 127, 2, 0])

    def test_long_runs(self):
        for count, expected in [(1, [1]), (126, [126]), (127, [127]), (128, [127, 1]), (253, [127, 126]),
                                (254, [127, 127]), (255, [127, 127, 1]), (256, [127, 127, 2])]:
            self.check("strip 4\n%d\n" % count, expected + [0])
            self.check("strip 4\n%d 3\n" % count, [131] + expected + [0])

    def test_long_runs_one_behind_another(self):
        self.check("strip 2\n127 0\n127 1\n2\n", [128, 127, 128, 129, 127, 129, 2, 0])
        self.check("strip 2\n128 0\n128 0 1\n", [128, 127, 1, 129, 127, 1, 0])

    def test_every_punch_turned_before_each_row(self):
        lines = ["1 " + " ".join(str(track) for track in range(number % 2, 128, 2)) + "\n" for number in range(120)]
        told = ask(read("strip 128\n" + "".join(lines)), program(0))[1]
        self.assertEqual(told[0], 64 + 1 + 119 * 129 + 1)
        self.assertEqual(told, counted(program_of_rows([list(range(number % 2, 128, 2)) for number in range(120)])))

    def test_of_strips_that_were_made_otherwise(self):
        told = ask(fill(4, 4, [(0, 0, 2), (3, 0, 2), (0, 3, 1)]), turned(0), moved(0, -1), part(0, 1, 2),
                   program(0), program(1), program(2), program(3))
        self.assertEqual(told[4:], [counted([128, 131, 2, 128, 131, 1, 128, 1, 0]),
                                    counted([128, 131, 2, 128, 131, 1, 131, 1, 0]), counted([130, 2, 130, 2, 0]),
                                    counted([128, 131, 1, 128, 131, 1, 0])])

    def test_it_makes_no_strip(self):
        self.assertEqual(ask(read(EXAMPLE), program(0), program(0), read("strip 1\n"), size(2))[3:],
                         [alone(1), alone(-4)])

    def test_not_there(self):
        self.assertEqual(ask(program(0)), [alone(-4)])
        for s in (1, 32, HIGHEST):
            self.assertEqual(ask(read(EXAMPLE), program(s))[1], alone(-4))


def told_program(width, rows):
    number, listed, given = ask(read(text_of_rows(width, rows)), program(0))[1]
    assert (number, listed) == (len(given), [])
    return list(given.encode("latin-1"))


class MakesTheStrip(unittest.TestCase):
    def test_punched_again(self):
        for width, rows in some_strips():
            given = told_program(width, rows)
            self.assertEqual(punched(given), rows)
            self.assertEqual(given, program_of_rows(rows))
            if len(given) <= 29000:
                told = ask(read(text_of_rows(width, rows)), punch(width, given), diff(0, 1), program(1))
                self.assertEqual(told[1:], [alone(1), alone(0), counted(given)])


class NoneIsShorter(unittest.TestCase):
    def check(self, width, rows):
        self.assertEqual(len(told_program(width, rows)), fewest_bytes(width, rows), (width, rows))

    def test_small_strips(self):
        for width, rows in small_strips():
            self.check(width, rows)

    def test_long_runs(self):
        for count in (1, 126, 127, 128, 129, 253, 254, 255, 256):
            self.check(1, [[]] * count)
            self.check(2, [[0, 1]] * count)
            self.check(2, [[0]] * (256 - count) + [[1]] * count)
            self.check(3, [[]] * (count // 3) + [[0, 2]] * (count - count // 3))

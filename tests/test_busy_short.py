"""busy and short: what is told of a program without keeping its strip."""

import random
import unittest

from tests.helper import EXAMPLE, alone, ask, busy, counted, diff, holes, program, punch, read, short, size, slots
from tests.samples import program_of_rows, punched, right_programs, some_strips

EXAMPLE_PROGRAM = [128, 131, 2, 128, 131, 1, 128, 1, 0]


class Busy(unittest.TestCase):
    def check(self, width, given, rows, hole_count, turns, busiest):
        self.assertEqual(ask(busy(width, given)), [(0, [rows, hole_count, turns, busiest], "")], given)

    def test_example(self):
        self.check(4, EXAMPLE_PROGRAM, 4, 5, 5, 3)

    def test_the_end_alone(self):
        self.check(1, [0], 0, 0, 0, 0)
        self.check(128, [0], 0, 0, 0, 0)

    def test_rows_without_holes(self):
        self.check(4, [9, 9, 0], 18, 0, 0, 0)

    def test_every_turn_counts(self):
        self.check(4, [128, 128, 128, 1, 0], 1, 1, 3, 1)
        self.check(4, [129, 129, 0], 0, 0, 2, 0)
        self.check(4, [5, 128, 129, 130, 131, 0], 5, 0, 4, 0)

    def test_busiest_is_neither_first_nor_last_nor_most_turned(self):
        self.check(4, [129, 1, 129, 130, 7, 129, 1, 129, 0], 9, 10, 5, 8)

    def test_holes_of_one_punch_in_several_slots(self):
        self.check(3, [128, 2, 128, 129, 3, 129, 128, 2, 0], 7, 7, 5, 4)

    def test_every_hole(self):
        self.check(128, list(range(128, 256)) + [127, 127, 2, 0], 256, 32768, 128, 256)
        self.check(1, [128, 127, 127, 2, 0], 256, 256, 1, 256)

    def test_last_punch(self):
        self.check(128, [255, 6, 0], 6, 6, 1, 6)

    def test_long_programs(self):
        self.check(128, [200] * 28998 + [100, 0], 100, 0, 28998, 0)

    def test_what_holes_and_slots_tell(self):
        for width, given in right_programs():
            told = ask(punch(width, given), size(0), holes(0), slots(0), busy(width, given))
            by_track = [0] * width
            listed = told[3][1]
            for track, count in zip(listed[0::3], listed[2::3]):
                by_track[track] += count
            turns = len([byte for byte in given if byte >= 128])
            self.assertEqual(told[4], (0, [told[1][1][1], told[2][0], turns, max(by_track)], ""))


def lengthened(width, given, source):
    """A longer program that makes the same strip."""
    longer = []
    for byte in given:
        if byte < 128:
            punches = [128 + source.randrange(width) for number in range(source.randrange(3))]
            longer += punches + punches
        if 1 < byte < 128 and source.randrange(2):
            first = source.randrange(1, byte)
            longer += [first, byte - first]
        else:
            longer.append(byte)
    return longer


class Short(unittest.TestCase):
    def check(self, width, given, expected):
        self.assertEqual(ask(short(width, given)), [counted(expected)], given)

    def test_example(self):
        self.check(4, EXAMPLE_PROGRAM, EXAMPLE_PROGRAM)
        self.check(4, [131, 129, 128, 129, 1, 1, 131, 128, 1, 128, 1, 129, 0], EXAMPLE_PROGRAM)

    def test_the_end_alone(self):
        self.check(1, [0], [0])
        self.check(128, [0], [0])

    def test_turned_without_rows_behind(self):
        self.check(4, [128, 131, 0], [0])
        self.check(4, [1, 128, 131, 0], [1, 0])

    def test_turned_twice(self):
        self.check(4, [129, 129, 1, 0], [1, 0])
        self.check(4, [128, 1, 130, 130, 1, 0], [128, 2, 0])

    def test_punches_the_lowest_first(self):
        self.check(4, [131, 130, 129, 128, 1, 0], [128, 129, 130, 131, 1, 0])

    def test_rows_are_put_together(self):
        self.check(4, [1] * 127 + [0], [127, 0])
        self.check(4, [1] * 128 + [0], [127, 1, 0])
        self.check(4, [100, 100, 54, 0], [127, 127, 0])
        self.check(4, [128, 64, 64, 64, 63, 0], [128, 127, 127, 1, 0])
        self.check(4, [1] * 256 + [0], [127, 127, 2, 0])
        self.check(4, [1, 127, 128, 1, 127, 0], [127, 1, 128, 127, 1, 0])

    def test_it_may_be_as_long(self):
        self.check(4, [127, 127, 2, 0], [127, 127, 2, 0])
        self.check(4, [2, 127, 127, 0], [127, 127, 2, 0])

    def test_long_programs(self):
        self.check(128, [200] * 28998 + [100, 0], [100, 0])

    def test_of_a_strips_own_program_and_of_longer_ones(self):
        source = random.Random(22)
        for width, rows in some_strips():
            own = program_of_rows(rows)
            longer = lengthened(width, own, source)
            assert punched(longer) == rows
            self.check(width, own, own)
            self.check(width, longer, own)

    def test_it_is_the_program_of_the_strip_that_punch_makes(self):
        for width, given in right_programs():
            told = ask(punch(width, given), program(0), short(width, given))
            self.assertEqual(told[1], told[2])
            self.assertLessEqual(told[2][0], len(given))
            shortest = list(told[2][2].encode("latin-1"))
            self.assertEqual(ask(punch(width, given), punch(width, shortest), diff(0, 1))[2], alone(0))


class NothingIsKept(unittest.TestCase):
    def test_no_strip_is_made(self):
        told = ask(busy(4, EXAMPLE_PROGRAM), short(4, EXAMPLE_PROGRAM), size(0), read(EXAMPLE))
        self.assertEqual(told[2:], [alone(-4), alone(0)])

    def test_beside_32_strips(self):
        full = [read("strip 1\n")] * 32
        told = ask(*full, busy(4, EXAMPLE_PROGRAM), short(4, EXAMPLE_PROGRAM), program(0))
        self.assertEqual(told[32:], [(0, [4, 5, 5, 3], ""), counted(EXAMPLE_PROGRAM), counted([0])])

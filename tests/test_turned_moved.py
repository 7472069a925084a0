"""turned and moved: a strip's tracks in another order or another place."""

import unittest

from tests.helper import (EXAMPLE, HIGHEST, alone, ask, ask_last, diff, fill, flat, holes, moved, program, punch, read,
                          row, size, slots, slots_of_rows, text, text_of_rows, turned)
from tests.samples import larger_strips, program_of_rows, small_strips, some_strips

LOWEST_MOVE = -2147483648
HIGHEST_MOVE = 2147483647


def turned_rows(width, rows):
    return [[track for track in range(width) if width - 1 - track in tracks] for tracks in rows]


def moved_rows(width, rows, b):
    return [[track for track in range(width) if 0 <= track - b < width and track - b in tracks] for tracks in rows]


def moves(width):
    return sorted({0, 1, -1, 2, -2, width - 1, 1 - width, width, -width, width + 1, LOWEST_MOVE, HIGHEST_MOVE})


class Turned(unittest.TestCase):
    def check(self, given, expected):
        self.assertEqual(ask(read(given), turned(0), text(1))[1:], [alone(1), (len(expected), [], expected)])

    def test_example(self):
        self.check(EXAMPLE, "strip 4\n2 0 3\n1\n1 3\n")

    def test_tracks_rise(self):
        self.check("strip 9\n1 0 1 7\n", "strip 9\n1 1 7 8\n")

    def test_width_1(self):
        self.check("strip 1\n2 0\n1\n", "strip 1\n2 0\n1\n")

    def test_width_128(self):
        self.check("strip 128\n1 0 63 126\n1 127\n", "strip 128\n1 1 64 127\n1 0\n")

    def test_the_middle_track_stays(self):
        self.check("strip 5\n1 2\n1 2 3\n", "strip 5\n1 2\n1 1 2\n")

    def test_no_rows_and_256_rows(self):
        self.check("strip 88\n", "strip 88\n")
        self.check("strip 88\n1 0\n255 80\n", "strip 88\n1 87\n255 7\n")

    def test_slots_and_rows_of_it(self):
        told = ask(fill(9, 3, [(1, 0, 2), (8, 0, 1), (3, 2, 1)]), turned(0), slots(1), row(1, 0), size(1), holes(1))
        self.assertEqual(told[2:], [(3, [0, 0, 1, 7, 0, 2, 5, 2, 1], ""), (2, [0, 7], ""), (0, [9, 3, 3], ""),
                                    alone(4)])

    def test_the_strip_itself_stays_as_it_was(self):
        told = ask(read(EXAMPLE), text(0), slots(0), turned(0), text(0), slots(0))
        self.assertEqual(told[1:3], told[4:])

    def test_each_call_makes_a_strip_of_its_own(self):
        self.assertEqual(ask(read(EXAMPLE), turned(0), turned(0), turned(2), diff(1, 2), diff(0, 3))[1:],
                         [alone(1), alone(2), alone(3), alone(0), alone(0)])

    def test_some_strips(self):
        for width, rows in some_strips():
            self.check(text_of_rows(width, rows), text_of_rows(width, turned_rows(width, rows)))


class TurnedTwice(unittest.TestCase):
    def test_it_is_as_it_was(self):
        for width, rows in some_strips():
            given = text_of_rows(width, rows)
            told = ask(read(given), turned(0), turned(1), diff(0, 2), text(2))
            self.assertEqual(told[1:], [alone(1), alone(2), alone(0), (len(given), [], given)])


class Moved(unittest.TestCase):
    def check(self, given, b, expected):
        self.assertEqual(ask(read(given), moved(0, b), text(1))[1:], [alone(1), (len(expected), [], expected)], b)

    def test_by_0(self):
        self.check(EXAMPLE, 0, EXAMPLE)

    def test_to_higher_tracks(self):
        self.check(EXAMPLE, 1, "strip 4\n2 1\n1\n1 1\n")
        self.check("strip 9\n1 0 2 7\n", 1, "strip 9\n1 1 3 8\n")

    def test_to_lower_tracks(self):
        self.check(EXAMPLE, -1, "strip 4\n2 2\n2\n")
        self.check("strip 9\n1 1 3 8\n", -1, "strip 9\n1 0 2 7\n")

    def test_by_one_less_than_the_width(self):
        self.check(EXAMPLE, 3, "strip 4\n2 3\n1\n1 3\n")
        self.check(EXAMPLE, -3, "strip 4\n2 0\n2\n")
        self.check("strip 128\n1 0 1\n1 126 127\n", 127, "strip 128\n1 127\n1\n")
        self.check("strip 128\n1 0 1\n1 126 127\n", -127, "strip 128\n1\n1 0\n")

    def test_by_the_width_and_more(self):
        for b in (4, -4, 5, -5, 128, -128, 4294967, LOWEST_MOVE, HIGHEST_MOVE):
            self.check(EXAMPLE, b, "strip 4\n4\n")

    def test_width_1(self):
        self.check("strip 1\n1 0\n1\n", 0, "strip 1\n1 0\n1\n")
        for b in (1, -1, LOWEST_MOVE, HIGHEST_MOVE):
            self.check("strip 1\n1 0\n1\n", b, "strip 1\n2\n")

    def test_no_rows(self):
        for b in (0, 1, -1, LOWEST_MOVE, HIGHEST_MOVE):
            self.check("strip 128\n", b, "strip 128\n")

    def test_256_rows(self):
        self.check("strip 128\n255 127\n1 0\n", 1, "strip 128\n255\n1 1\n")
        self.check("strip 128\n255 127\n1 0\n", -1, "strip 128\n255 126\n1\n")

    def test_runs_that_become_the_same_are_one(self):
        self.check("strip 4\n1 0\n2 0 3\n3 0\n", 1, "strip 4\n6 1\n")
        told = ask(read("strip 4\n1 0\n2 0 3\n3 0\n"), moved(0, 1), size(1), slots(1), program(1))
        self.assertEqual(told[2:4], [(0, [4, 6, 1], ""), (1, [1, 0, 6], "")])
        self.assertEqual(told[4][0], 3)

    def test_a_track_that_is_lost_does_not_come_back(self):
        self.assertEqual(ask_last(read("strip 4\n1 0 3\n"), moved(0, 1), moved(1, -1), text(2)),
                         (12, [], "strip 4\n1 0\n"))

    def test_the_strip_itself_stays_as_it_was(self):
        told = ask(read(EXAMPLE), moved(0, 1), moved(0, -1), text(0))
        self.assertEqual(told[3], (20, [], EXAMPLE))

    def test_small_strips(self):
        for width, rows in small_strips():
            calls, expected = [read(text_of_rows(width, rows))], [alone(0)]
            for number, b in enumerate(moves(width), start=1):
                given = text_of_rows(width, moved_rows(width, rows, b))
                calls += [moved(0, b), text(number)]
                expected += [alone(number), (len(given), [], given)]
            self.assertEqual(ask(*calls), expected)

    def test_larger_strips(self):
        for width, rows in larger_strips():
            for b in moves(width):
                self.check(text_of_rows(width, rows), b, text_of_rows(width, moved_rows(width, rows, b)))


class OfAnyStrip(unittest.TestCase):
    def test_made_by_another_call(self):
        rows = [[0], [0], [2, 3], []]
        given_slots = slots_of_rows(rows)
        makers = [read(text_of_rows(4, rows)), fill(4, 4, given_slots), punch(4, program_of_rows(rows))]
        for made in makers:
            told = ask(made, turned(0), moved(1, -1), text(1), text(2), slots(2))
            turned_text = text_of_rows(4, turned_rows(4, rows))
            moved_again = moved_rows(4, turned_rows(4, rows), -1)
            self.assertEqual(told[3:], [(len(turned_text), [], turned_text),
                                        (len(text_of_rows(4, moved_again)), [], text_of_rows(4, moved_again)),
                                        (len(slots_of_rows(moved_again)), flat(slots_of_rows(moved_again)), "")])


class NotThere(unittest.TestCase):
    def test_no_strip_at_all(self):
        self.assertEqual(ask(turned(0), moved(0, 0), moved(0, -1)), [alone(-4)] * 3)

    def test_behind_the_last(self):
        for s in (1, 31, 32, 2147483648, HIGHEST):
            for call in (turned(s), moved(s, 0), moved(s, LOWEST_MOVE), moved(s, HIGHEST_MOVE)):
                self.assertEqual(ask(read(EXAMPLE), call, size(1))[1:], [alone(-4)] * 2)

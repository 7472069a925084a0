"""text, size, row, holes and slots: what is told of a strip."""

import unittest

from tests.helper import EXAMPLE, HIGHEST, alone, ask, ask_last, diff, fill, flat, holes, read, row, size, slots, text

FULL = [(track, 0, 256) for track in range(128)]


class Text(unittest.TestCase):
    def test_example(self):
        self.assertEqual(ask_last(read(EXAMPLE), text(0)), (20, [], EXAMPLE))

    def test_no_rows(self):
        self.assertEqual(ask_last(read("strip 88\n"), text(0)), (9, [], "strip 88\n"))

    def test_rows_without_holes(self):
        self.assertEqual(ask_last(fill(1, 256, []), text(0)), (12, [], "strip 1\n256\n"))

    def test_every_hole(self):
        given = "strip 128\n256 " + " ".join(str(track) for track in range(128)) + "\n"
        self.assertEqual(ask_last(fill(128, 256, FULL), text(0)), (len(given), [], given))

    def test_longer_than_what_read_takes(self):
        made = sorted([(0, track, 256) for track in range(127)] + [(first, 127, 1) for first in range(0, 256, 2)])
        given_slots = [(track, first, rows) for first, track, rows in made]
        lines = ["1 " + " ".join(str(track) for track in range(128 - number % 2)) + "\n" for number in range(256)]
        given = "strip 128\n" + "".join(lines)
        self.assertGreater(len(given), 65536)
        self.assertEqual(ask_last(fill(128, 256, given_slots), text(0)), (len(given), [], given))

    def test_of_each_strip_its_own(self):
        told = ask(read("strip 1\n"), read("strip 2\n"), text(1), text(0))
        self.assertEqual(told[2:], [(8, [], "strip 2\n"), (8, [], "strip 1\n")])


class Size(unittest.TestCase):
    def test_example(self):
        self.assertEqual(ask_last(read(EXAMPLE), size(0)), (0, [4, 4, 3], ""))

    def test_no_rows_have_no_runs(self):
        self.assertEqual(ask_last(fill(128, 0, []), size(0)), (0, [128, 0, 0], ""))

    def test_one_run(self):
        self.assertEqual(ask_last(fill(1, 256, []), size(0)), (0, [1, 256, 1], ""))

    def test_runs_end_where_holes_change(self):
        self.assertEqual(ask_last(fill(3, 9, [(0, 1, 5), (2, 1, 2), (2, 4, 2)]), size(0)), (0, [3, 9, 5], ""))


class Row(unittest.TestCase):
    def test_example(self):
        self.assertEqual(ask(read(EXAMPLE), row(0, 0), row(0, 1), row(0, 2), row(0, 3))[1:],
                         [(2, [0, 3], ""), (2, [0, 3], ""), alone(0), (1, [0], "")])

    def test_no_such_row(self):
        self.assertEqual(ask(read(EXAMPLE), row(0, 4), row(0, HIGHEST))[1:], [alone(-4)] * 2)
        self.assertEqual(ask_last(read("strip 4\n"), row(0, 0)), alone(-4))

    def test_rows_0_and_255(self):
        told = ask(fill(128, 256, [(127, 0, 1), (126, 255, 1)]), row(0, 0), row(0, 255), row(0, 256))
        self.assertEqual(told[1:], [(1, [127], ""), (1, [126], ""), alone(-4)])

    def test_tracks_rise_whatever_slots_came_first(self):
        told = ask(fill(9, 3, [(8, 0, 3), (4, 1, 2), (0, 2, 1), (6, 2, 1)]), row(0, 2))
        self.assertEqual(told[1], (4, [0, 4, 6, 8], ""))


class Holes(unittest.TestCase):
    def test_example(self):
        self.assertEqual(ask_last(read(EXAMPLE), holes(0)), alone(5))

    def test_none_and_all(self):
        self.assertEqual(ask(fill(4, 0, []), fill(4, 9, []), fill(128, 256, FULL), holes(0), holes(1), holes(2))[3:],
                         [alone(0), alone(0), alone(128 * 256)])


class Slots(unittest.TestCase):
    def test_example(self):
        self.assertEqual(ask_last(read(EXAMPLE), slots(0)), (3, [0, 0, 2, 3, 0, 2, 0, 3, 1], ""))

    def test_none(self):
        self.assertEqual(ask(read("strip 4\n"), read("strip 4\n9\n"), slots(0), slots(1))[2:], [alone(0)] * 2)

    def test_a_slot_goes_through_several_runs(self):
        told = ask_last(read("strip 4\n1 1\n2 0 1 2\n1 1 2\n1\n1 1\n"), slots(0))
        self.assertEqual(told, (4, [1, 0, 4, 0, 1, 2, 2, 1, 3, 1, 5, 1], ""))

    def test_by_first_row_then_by_track(self):
        told = ask_last(read("strip 12\n1 10\n1 2 9 10\n1 0 9\n"), slots(0))
        self.assertEqual(told, (4, [10, 0, 2, 2, 1, 1, 9, 1, 2, 0, 2, 1], ""))

    def test_every_hole(self):
        self.assertEqual(ask_last(fill(128, 256, FULL), slots(0)), (128, flat(FULL), ""))

    def test_more_than_fill_takes(self):
        # Neighbours never share a row's holes, so every hole is a slot of its own.
        lines = ["1 " + " ".join(str(track) for track in range(number % 2, 16, 2)) + "\n" for number in range(256)]
        expected = [(track, number, 1) for number in range(256) for track in range(number % 2, 16, 2)]
        self.assertEqual(ask_last(read("strip 16\n" + "".join(lines)), slots(0)), (2048, flat(expected), ""))


class NotThere(unittest.TestCase):
    def test_no_strip_at_all(self):
        for call in (text(0), size(0), row(0, 0), holes(0), slots(0), diff(0, 0)):
            self.assertEqual(ask(call), [alone(-4)])

    def test_the_one_behind_the_last(self):
        for call in (text(1), size(1), row(1, 0), holes(1), slots(1), diff(0, 1), diff(1, 0)):
            self.assertEqual(ask(read(EXAMPLE), call), [alone(0), alone(-4)])

    def test_highest_number(self):
        for s in (32, 2147483648, HIGHEST):
            for call in (text(s), size(s), row(s, 0), row(s, s), holes(s), slots(s), diff(0, s), diff(s, 0),
                         diff(s, s)):
                self.assertEqual(ask(read(EXAMPLE), call), [alone(0), alone(-4)])

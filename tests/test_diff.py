"""diff: the first place in which two strips differ."""

import unittest

from tests.helper import EXAMPLE, HIGHEST, alone, ask, ask_last, diff, fill, read


def told(one, other):
    given = ask(read(one), read(other), diff(0, 1), diff(1, 0))
    assert given[:2] == [alone(0), alone(1)]
    assert given[2] == given[3], given
    return given[2]


class Same(unittest.TestCase):
    def test_a_strip_and_itself(self):
        self.assertEqual(ask_last(read(EXAMPLE), diff(0, 0)), alone(0))

    def test_two_strips(self):
        self.assertEqual(told(EXAMPLE, EXAMPLE), alone(0))
        self.assertEqual(told("strip 4\n", "strip 4\n"), alone(0))

    def test_made_in_two_ways(self):
        given = ask(read(EXAMPLE), fill(4, 4, [(0, 0, 2), (3, 0, 2), (0, 3, 1)]), diff(0, 1))
        self.assertEqual(given[2], alone(0))


class Different(unittest.TestCase):
    def test_first_row_and_lowest_track(self):
        self.assertEqual(told("strip 9\n2 1\n1 2 5 7\n", "strip 9\n2 1\n1 2 4 7\n"), (1, [2, 4], ""))
        self.assertEqual(told("strip 9\n1 1\n", "strip 9\n1 0\n"), (1, [0, 0], ""))

    def test_a_hole_more(self):
        self.assertEqual(told("strip 9\n1 2\n", "strip 9\n1 2 8\n"), (1, [0, 8], ""))
        self.assertEqual(told("strip 9\n1 2 8\n", "strip 9\n1 8\n"), (1, [0, 2], ""))
        self.assertEqual(told("strip 9\n1\n", "strip 9\n1 3\n"), (1, [0, 3], ""))

    def test_tracks_by_number_not_by_place_on_the_line(self):
        self.assertEqual(told("strip 128\n1 5 100\n", "strip 128\n1 5 20\n"), (1, [0, 20], ""))

    def test_last_row_and_last_track(self):
        self.assertEqual(told("strip 128\n255\n1 127\n", "strip 128\n256\n"), (1, [255, 127], ""))

    def test_the_first_of_several_rows(self):
        self.assertEqual(told("strip 4\n3\n1 0\n", "strip 4\n2\n1 3\n1\n"), (1, [2, 3], ""))

    def test_a_row_that_differs_comes_before_the_end(self):
        self.assertEqual(told("strip 4\n1\n1 2\n1\n", "strip 4\n1\n1 3\n"), (1, [1, 2], ""))


class OneGoesOn(unittest.TestCase):
    def test_that_row_and_the_width(self):
        self.assertEqual(told("strip 4\n2 0\n", "strip 4\n3 0\n"), (1, [2, 4], ""))
        self.assertEqual(told("strip 128\n2\n1 0\n", "strip 128\n2\n"), (1, [2, 128], ""))

    def test_no_rows(self):
        self.assertEqual(told("strip 7\n", "strip 7\n1\n"), (1, [0, 7], ""))
        self.assertEqual(told("strip 7\n", "strip 7\n256 0\n"), (1, [0, 7], ""))


class Refused(unittest.TestCase):
    def test_different_widths(self):
        self.assertEqual(told("strip 4\n", "strip 5\n"), alone(-1))
        self.assertEqual(told("strip 4\n1 0\n", "strip 5\n1 0\n"), alone(-1))

    def test_a_strip_that_is_not_there_comes_first(self):
        given = ask(read("strip 4\n"), read("strip 5\n"), diff(0, 2), diff(2, 1), diff(HIGHEST, 0), diff(2, 2))
        self.assertEqual(given[2:], [alone(-4)] * 4)

"""fill: the strip of a row of slots, and slots that can't stand."""

import unittest

from tests.helper import HIGHEST, alone, ask, ask_last, fill, flat, read, size, slots, slots_of_rows, text

# Every second row of 128 tracks: 8 rows of slots, 1,024 in all.
MOST = [(track, first, 1) for first in range(0, 16, 2) for track in range(128)]


class Made(unittest.TestCase):
    def test_example_strip(self):
        told = ask(fill(4, 4, [(0, 0, 2), (3, 0, 2), (0, 3, 1)]), text(0))
        self.assertEqual(told, [alone(0), (20, [], "strip 4\n2 0 3\n1\n1 0\n")])

    def test_no_slots(self):
        self.assertEqual(ask(fill(1, 0, []), text(0))[1], (8, [], "strip 1\n"))
        self.assertEqual(ask(fill(128, 256, []), text(0))[1], (14, [], "strip 128\n256\n"))

    def test_last_slot_that_can_stand(self):
        for width, rows in ((1, 1), (4, 4), (128, 256), (1, 256), (128, 1)):
            told = ask(fill(width, rows, [(width - 1, rows - 1, 1)]), slots(0), size(0))
            self.assertEqual(told[:2], [alone(0), (1, [width - 1, rows - 1, 1], "")])
            self.assertEqual(told[2][1][:2], [width, rows])

    def test_1024_slots(self):
        told = ask(fill(128, 16, MOST), slots(0))
        self.assertEqual(told, [alone(0), (1024, flat(MOST), "")])

    def test_a_row_between_slots_of_a_track(self):
        given = [(0, 0, 2), (0, 3, 1), (0, 5, 1)]
        self.assertEqual(ask(fill(1, 6, given), slots(0)), [alone(0), (3, flat(given), "")])

    def test_neighbour_tracks_do_not_touch(self):
        given = [(0, 0, 2), (1, 0, 2), (2, 1, 1), (1, 3, 1), (0, 4, 1), (2, 4, 1)]
        self.assertEqual(ask(fill(3, 5, given), slots(0)), [alone(0), (6, flat(given), "")])

    def test_several_strips(self):
        self.assertEqual(ask(fill(1, 0, []), fill(2, 0, []), read("strip 3\n"), fill(4, 0, []), size(3)),
                         [alone(0), alone(1), alone(2), alone(3), (0, [4, 0, 0], "")])


class OutOfRange(unittest.TestCase):
    def test_width(self):
        for width in (0, 129, 256, HIGHEST):
            self.assertEqual(ask(fill(width, 4, []), size(0)), [alone(-1), alone(-4)])

    def test_rows(self):
        for rows in (257, 65536, HIGHEST):
            self.assertEqual(ask(fill(4, rows, []), size(0)), [alone(-1), alone(-4)])

    def test_1025_slots(self):
        self.assertEqual(ask(fill(128, 17, MOST + [(0, 16, 1)]), size(0)), [alone(-1), alone(-4)])

    def test_it_comes_before_a_slot_that_cannot_stand(self):
        bad = [(HIGHEST, HIGHEST, HIGHEST)]
        for call in (fill(0, 4, bad), fill(129, 4, bad), fill(4, 257, bad), fill(128, 16, bad * 1025)):
            self.assertEqual(ask(call), [alone(-1)])
        self.assertEqual(ask(fill(128, 16, bad * 1024)), [(-3, [0], "")])


class CannotStand(unittest.TestCase):
    def check(self, width, rows, given, number):
        self.assertEqual(ask(fill(width, rows, given), size(0)), [(-3, [number], ""), alone(-4)], given)

    def test_document_example(self):
        self.check(4, 4, [(0, 0, 2), (0, 2, 1)], 1)

    def test_no_rows_of_its_own(self):
        self.check(4, 4, [(0, 0, 0)], 0)
        self.check(4, 4, [(0, 0, 1), (1, 2, 0)], 1)
        self.check(4, 4, [(0, 4, 0)], 0)

    def test_track_from_the_width_on(self):
        self.check(4, 4, [(4, 0, 1)], 0)
        self.check(1, 4, [(1, 0, 1)], 0)
        self.check(128, 4, [(128, 0, 1)], 0)
        self.check(4, 4, [(HIGHEST, 0, 1)], 0)

    def test_beyond_the_rows(self):
        self.check(4, 4, [(0, 4, 1)], 0)
        self.check(4, 4, [(0, 0, 5)], 0)
        self.check(4, 4, [(0, 3, 2)], 0)
        self.check(4, 0, [(0, 0, 1)], 0)
        self.check(4, 256, [(0, 255, 2)], 0)
        self.check(4, 256, [(0, 256, 1)], 0)

    def test_numbers_up_to_the_highest(self):
        self.check(4, 4, [(0, HIGHEST, 1)], 0)
        self.check(4, 4, [(0, 0, HIGHEST)], 0)
        self.check(4, 4, [(0, 1, HIGHEST)], 0)
        self.check(4, 4, [(0, HIGHEST, HIGHEST)], 0)
        self.check(4, 4, [(0, 0, 1), (0, 2, 1), (1, HIGHEST, 2)], 2)

    def test_out_of_order(self):
        self.check(4, 4, [(1, 0, 1), (0, 0, 1)], 1)
        self.check(4, 4, [(0, 1, 1), (1, 0, 1)], 1)
        self.check(4, 9, [(0, 0, 1), (1, 4, 1), (2, 3, 1)], 2)
        self.check(4, 9, [(0, 0, 1), (3, 0, 1), (2, 0, 1)], 2)

    def test_the_same_slot_twice(self):
        self.check(4, 4, [(2, 1, 1), (2, 1, 1)], 1)
        self.check(4, 4, [(2, 1, 1), (2, 1, 2)], 1)

    def test_touching(self):
        self.check(4, 9, [(0, 0, 3), (0, 3, 1)], 1)
        self.check(4, 9, [(0, 0, 3), (1, 1, 1), (0, 3, 1)], 2)
        self.check(4, 9, [(0, 0, 1), (0, 2, 2), (0, 4, 1)], 2)
        self.check(4, 9, [(3, 0, 1), (3, 1, 1)], 1)

    def test_overlapping(self):
        self.check(4, 9, [(0, 0, 3), (0, 2, 1)], 1)
        self.check(4, 9, [(0, 0, 9), (1, 1, 1), (0, 5, 1)], 2)

    def test_the_first_of_several(self):
        self.check(4, 4, [(0, 0, 1), (0, 1, 1), (9, 9, 9)], 1)
        self.check(4, 4, [(9, 9, 9), (0, 0, 1)], 0)
        self.check(4, 4, [(0, 0, 1), (9, 0, 1), (0, 0, 1)], 1)

    def test_the_last_of_1024(self):
        self.check(128, 16, MOST[:-1] + [(127, 14, 3)], 1023)


def can_stand(width, rows, given):
    """Whether there is a strip with just these slots, found by punching them."""
    tracks = [set() for number in range(rows)]
    for track, first, count in given:
        if count < 1 or track >= width or first + count > rows:
            return False
        for number in range(first, first + count):
            tracks[number].add(track)
    return slots_of_rows(tracks) == given


class EveryPairOfSlots(unittest.TestCase):
    def test_small_strips(self):
        some = [(track, first, count) for track in range(3) for first in range(4) for count in range(4)]
        for one in some:
            for other in some:
                given = [one, other]
                stands = [number for number in (1, 2) if can_stand(2, 3, given[:number])]
                told = ask_last(fill(2, 3, given))
                if stands == [1, 2]:
                    self.assertEqual(told, alone(0), given)
                else:
                    self.assertEqual(told, (-3, [1 if 1 in stands else 0], ""), given)

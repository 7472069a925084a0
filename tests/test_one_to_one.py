"""A1 and A2: a strip and its text, a strip and its slots, are one to one."""

import unittest

from tests.helper import (alone, ask, diff, fill, flat, holes, moved, part, punch, read, row, size, slots,
                          slots_of_rows, text, text_of_rows, turned)
from tests.samples import larger_strips, program_of_rows, punched, right_programs, small_strips, some_strips


class OneToOne(unittest.TestCase):
    def check(self, width, rows):
        given = text_of_rows(width, rows)
        given_slots = slots_of_rows(rows)
        calls = [read(given), text(0), slots(0), size(0), holes(0)]
        expected = [alone(0), (len(given), [], given), (len(given_slots), flat(given_slots), ""),
                    (0, [width, len(rows), given.count("\n") - 1], ""), alone(sum(map(len, rows)))]
        for number, tracks in enumerate(rows):
            calls.append(row(0, number))
            expected.append((len(tracks), tracks, ""))
        if len(given_slots) <= 1024:
            calls += [fill(width, len(rows), given_slots), text(1), slots(1), diff(0, 1)]
            expected += [alone(1), expected[1], expected[2], alone(0)]
        self.assertEqual(ask(*calls), expected)

    def test_every_small_strip(self):
        for width, rows in small_strips():
            self.check(width, rows)

    def test_larger_strips(self):
        self.assertGreater(len(list(larger_strips())), 40)
        for width, rows in larger_strips():
            self.check(width, rows)

    def test_different_strips_have_different_texts_and_slots(self):
        seen_texts = {}
        seen_slots = {}
        for width, rows in small_strips():
            told = ask(read(text_of_rows(width, rows)), text(0), slots(0), size(0))
            seen_texts[told[1][2]] = (width, rows)
            seen_slots[(tuple(told[2][1]), tuple(told[3][1][:2]))] = (width, rows)
        count = len(list(small_strips()))
        self.assertEqual((len(seen_texts), len(seen_slots)), (count, count))


class OfEveryCallThatMakesAStrip(unittest.TestCase):
    """The texts and slots of strips that turned, moved, part and punch make lead back to the same strips."""

    def check(self, width, made, rows):
        given = text_of_rows(width, rows)
        given_slots = slots_of_rows(rows)
        s = len(made) - 1
        calls = made + [text(s), slots(s), read(given), diff(s, s + 1)]
        expected = [(len(given), [], given), (len(given_slots), flat(given_slots), ""), alone(s + 1), alone(0)]
        if len(given_slots) <= 1024:
            calls += [fill(width, len(rows), given_slots), diff(s, s + 2)]
            expected += [alone(s + 2), alone(0)]
        self.assertEqual(ask(*calls), [alone(number) for number in range(s + 1)] + expected)

    def test_turned_moved_and_part(self):
        for width, rows in some_strips():
            made = read(text_of_rows(width, rows))
            turned_rows = [[width - 1 - track for track in tracks][::-1] for tracks in rows]
            moved_rows = [[track - 1 for track in tracks if track > 0] for tracks in rows]
            self.check(width, [made, turned(0)], turned_rows)
            self.check(width, [made, moved(0, -1)], moved_rows)
            self.check(width, [made, part(0, len(rows) // 2, (len(rows) + 1) // 2)], rows[len(rows) // 2:])

    def test_punch(self):
        for width, rows in some_strips():
            self.check(width, [punch(width, program_of_rows(rows))], rows)
        for width, given in right_programs():
            self.check(width, [punch(width, given)], punched(given))

    def test_programs_that_make_the_same_strip(self):
        told = ask(punch(2, [128, 2, 128, 1, 0]), punch(2, [128, 1, 1, 129, 128, 129, 1, 129, 0]), diff(0, 1), text(0),
                   text(1), slots(0), slots(1))
        self.assertEqual(told[2:], [alone(0), told[3], told[3], told[5], told[5]])

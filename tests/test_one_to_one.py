"""A1 and A2: a strip and its text, a strip and its slots, are one to one."""

import itertools
import random
import unittest

from tests.helper import (alone, ask, diff, fill, flat, holes, read, row, size, slots, slots_of_rows, text,
                          text_of_rows)


def all_rows(width):
    return [[track for track in range(width) if mask >> track & 1] for mask in range(1 << width)]


def small_strips():
    for width, most in ((1, 6), (2, 4), (3, 3)):
        for length in range(most + 1):
            for rows in itertools.product(all_rows(width), repeat=length):
                yield width, list(rows)


def larger_strips():
    source = random.Random(20)
    for turn in range(60):
        width = source.choice([1, 2, 7, 64, 127, 128])
        left = source.choice([1, 5, 40, 256])
        rows = []
        while left > 0:
            count = min(left, source.choice([1, 1, 2, 3, 50]))
            share = source.choice([0, 1, 5, 9, 10])
            rows += [[track for track in range(width) if source.randrange(10) < share]] * count
            left -= count
        if len(text_of_rows(width, rows)) < 20000:
            yield width, rows


class OneToOne(unittest.TestCase):
    def check(self, width, rows):
        given = text_of_rows(width, rows)
        given_slots = slots_of_rows(rows)
        calls = [read(given), text(0), slots(0), size(0), holes(0)]
        expected = [alone(0), (len(given), [], given), (len(given_slots), flat(given_slots), ""),
                    (0, [width, len(rows), given.count("\n") - 1], ""), alone(sum(map(len, rows)))]
        for number, tracks in enumerate(rows):
            calls.append(row(0, number))
            expected.append((len(tracks), tracks, ""))
        if len(given_slots) <= 1024:
            calls += [fill(width, len(rows), given_slots), text(1), slots(1), diff(0, 1)]
            expected += [alone(1), expected[1], expected[2], alone(0)]
        self.assertEqual(ask(*calls), expected)

    def test_every_small_strip(self):
        for width, rows in small_strips():
            self.check(width, rows)

    def test_larger_strips(self):
        self.assertGreater(len(list(larger_strips())), 40)
        for width, rows in larger_strips():
            self.check(width, rows)

    def test_different_strips_have_different_texts_and_slots(self):
        seen_texts = {}
        seen_slots = {}
        for width, rows in small_strips():
            told = ask(read(text_of_rows(width, rows)), text(0), slots(0), size(0))
            seen_texts[told[1][2]] = (width, rows)
            seen_slots[(tuple(told[2][1]), tuple(told[3][1][:2]))] = (width, rows)
        count = len(list(small_strips()))
        self.assertEqual((len(seen_texts), len(seen_slots)), (count, count))

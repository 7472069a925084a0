"""The object: 32 strips at most, and A5: refused, nothing is changed."""

import unittest

from tests.helper import (EXAMPLE, HIGHEST, alone, ask, busy, counted, diff, fill, holes, moved, part, program, punch,
                          read, row, short, size, slots, text, turned)

THIRTY_TWO = [read("strip %d\n" % width) for width in range(1, 33)]
REFUSED = [
    read(""), read("strip 4\n2 0 0\n"), read([0] * 65537), fill(0, 4, []), fill(129, 4, []), fill(4, 257, []),
    fill(4, 4, [(0, 0, 1)] * 1025), fill(4, 4, [(0, 0, 2), (0, 2, 1)]), fill(4, 4, [(0, 0, 1), (0, 0, 1)]),
    text(HIGHEST), size(9), row(9, 0), row(0, 99), holes(9), slots(9), diff(0, 9), diff(9, 0), diff(0, 1),
    turned(2), turned(HIGHEST), moved(2, 0), moved(HIGHEST, -1), part(2, 0, 0), part(0, 4, 1), part(0, 5, 0),
    part(0, HIGHEST, HIGHEST), program(2), punch(0, [0]), punch(129, [0]), punch(4, [128] * 65536 + [0]),
    punch(4, [132, 0]), punch(4, [128, 2, 0, 1]), punch(4, [128, 2]), punch(4, []), punch(4, [127, 127, 127, 0]),
    busy(0, [0]), busy(4, [0] * 65537), busy(4, [1]), short(129, [0]), short(4, [0] * 65537), short(4, [0, 0]),
]
MAKERS = [read(EXAMPLE), fill(1, 1, []), turned(0), moved(0, 1), part(0, 0, 0), punch(4, [128, 2, 0])]


class ThirtyTwo(unittest.TestCase):
    def test_numbers_as_they_came(self):
        told = ask(*THIRTY_TWO, size(31), size(0), size(32))
        self.assertEqual(told[:32], [alone(number) for number in range(32)])
        self.assertEqual(told[32:], [(0, [32, 0, 0], ""), (0, [1, 0, 0], ""), alone(-4)])

    def test_the_33rd(self):
        told = ask(*THIRTY_TWO, read(EXAMPLE), fill(1, 1, []), size(31), size(32))
        self.assertEqual(told[32:], [alone(-10), alone(-10), (0, [32, 0, 0], ""), alone(-4)])

    def test_the_32nd_by_fill(self):
        told = ask(*THIRTY_TWO[:31], fill(9, 9, []), fill(9, 9, []), size(31))
        self.assertEqual(told[31:], [alone(31), alone(-10), (0, [9, 9, 1], "")])

    def test_the_32nd_and_the_33rd_by_each_call(self):
        for call in MAKERS:
            told = ask(*THIRTY_TWO[:31], call, size(31), call, size(31), size(32), text(0))
            self.assertEqual((told[31], told[33]), (alone(31), alone(-10)), call)
            self.assertEqual((told[34], told[35], told[36]), (told[32], alone(-4), (8, [], "strip 1\n")), call)

    def test_32_by_the_same_call(self):
        for call in MAKERS:
            told = ask(read(EXAMPLE), *[call] * 31, call, size(31), size(32))
            self.assertEqual(told[:33], [alone(number) for number in range(32)] + [alone(-10)], call)
            self.assertEqual((told[33][0], told[34]), (0, alone(-4)), call)

    def test_what_the_other_calls_refuse_comes_first(self):
        told = ask(*THIRTY_TWO, turned(32), moved(32, 0), part(32, 9, 9), part(0, 0, 1), part(0, HIGHEST, 0),
                   punch(0, [0]), punch(129, []), punch(4, [0] * 65537), punch(4, [1]), punch(4, [0, 0]))
        self.assertEqual(told[32:], [alone(-4)] * 3 + [alone(-3)] * 2 + [alone(-1)] * 2 + [alone(-2), (-6, [1], ""),
                                                                                           (-6, [1], "")])

    def test_every_other_refusal_comes_first(self):
        told = ask(*THIRTY_TWO, read("x"), read([0] * 65537), fill(0, 0, []), fill(1, 257, []),
                   fill(1, 1, [(0, 0, 0)]), fill(1, 1, [(0, 0, 1)] * 1025), read("strip 1\n"))
        self.assertEqual(told[32:], [(-6, [0], ""), alone(-2), alone(-1), alone(-1), (-3, [0], ""), alone(-1),
                                     alone(-10)])

    def test_calls_that_make_nothing_are_answered_as_before(self):
        self.assertEqual(ask(*THIRTY_TWO, read("strip 1\n"), diff(3, 3), text(9))[33:],
                         [alone(0), (9, [], "strip 10\n")])


class RefusedChangesNothing(unittest.TestCase):
    def test_each_refusal(self):
        made = [read(EXAMPLE), read("strip 5\n1 0\n")]
        behind = [text(0), size(1), row(0, 0), holes(0), slots(0), text(2), fill(4, 4, [(3, 0, 1)]), diff(0, 2),
                  text(2), program(0), busy(4, [3, 0]), short(4, [1, 1, 0]), punch(2, [129, 2, 0]), turned(0),
                  moved(0, 1), part(0, 1, 2), text(3), text(4), text(5), text(6), text(7)]
        expected = ask(*made, *behind)
        for call in REFUSED:
            told = ask(*made, call, *behind)
            self.assertLess(told[2][0], 0, call)
            self.assertEqual(told[:2] + told[3:], expected, call)

    def test_all_of_them_one_behind_another(self):
        made = [read(EXAMPLE), read("strip 5\n1 0\n")]
        told = ask(*made, *REFUSED, read("strip 6\n"), text(0), text(2))
        self.assertEqual(told[-3:], [alone(2), (20, [], EXAMPLE), (8, [], "strip 6\n")])

    def test_calls_that_tell_change_nothing(self):
        telling = [text(0), size(0), row(0, 0), holes(0), slots(0), diff(0, 0), program(0), busy(4, [128, 3, 0]),
                   short(4, [128, 3, 129, 0])]
        told = ask(read(EXAMPLE), *telling, *telling, read("strip 1\n"))
        self.assertEqual(told[1:10], told[10:19])
        self.assertEqual(told[19], alone(1))

    def test_calls_that_make_strips_change_none_before(self):
        told = ask(read(EXAMPLE), program(0), text(0), slots(0), turned(0), moved(0, 1), part(0, 1, 2),
                   punch(4, [128, 1, 0]), program(0), text(0), slots(0))
        self.assertEqual(told[1], counted([128, 131, 2, 128, 131, 1, 128, 1, 0]))
        self.assertEqual(told[4:8], [alone(1), alone(2), alone(3), alone(4)])
        self.assertEqual(told[1:4], told[8:])

"""The one list that is handed in and the one that is given back."""

import contextlib
import io
import unittest
from unittest import mock

from punchhall.strips import answers
from tests.helper import (EXAMPLE, HIGHEST, busy, diff, fill, holes, joined, moved, part, program, punch, read, row,
                          short, size, slots, text, turned)

EVERY_CALL = joined([
    read(EXAMPLE), read("strip 4\n9 9\n"), text(0), size(0), row(0, 0), row(0, 2), row(0, 4), holes(0),
    slots(0), fill(4, 4, [(0, 0, 2), (0, 2, 1)]), fill(4, 4, [(3, 1, 3)]), fill(0, 0, []), diff(0, 1),
    diff(0, 0), text(2), size(HIGHEST), turned(0), turned(9), moved(0, 1), moved(0, -2147483648), moved(9, -1),
    part(0, 1, 3), part(0, 1, 4), part(9, 0, 0), program(0), program(9), punch(4, [128, 2, 128, 1, 0]),
    punch(0, [0]), punch(4, [1]), busy(4, [131, 9, 0]), busy(129, []), busy(4, [0, 0]),
    short(4, [131, 4, 5, 129, 0]), short(0, []), short(4, [132, 0]), row(4, 1), text(5), slots(6), diff(0, 3),
])


class GivenBack(unittest.TestCase):
    def test_made_strip_is_its_number_alone(self):
        self.assertEqual(answers(read("strip 1\n")), [1, 0])

    def test_fault_has_a_list(self):
        self.assertEqual(answers(read("strip 129")), [4, -6, 1, 6, 0])

    def test_slot_that_cannot_stand_has_a_list(self):
        self.assertEqual(answers([7, 4, 4, 6, 0, 0, 2, 0, 2, 1]), [4, -3, 1, 1, 0])

    def test_other_refusals_are_the_number_alone(self):
        self.assertEqual(answers([2, 0]), [1, -4])
        self.assertEqual(answers([7, 0, 0, 0]), [1, -1])
        self.assertEqual(answers(read([0] * 65537)), [1, -2])

    def test_text_has_an_empty_list_before_it(self):
        given = list(b"strip 88\n")
        self.assertEqual(answers([1, 9] + given + [2, 0]), [1, 0, 12, 9, 0, 9] + given)

    def test_list_has_an_empty_text_behind_it(self):
        self.assertEqual(answers(read("strip 88\n") + [3, 0]), [1, 0, 6, 0, 3, 88, 0, 0, 0])

    def test_row_and_slots(self):
        given = read("strip 9\n2 1 8\n1\n")
        self.assertEqual(answers(given + [4, 0, 1]), [1, 0, 5, 2, 2, 1, 8, 0])
        self.assertEqual(answers(given + [6, 0]), [1, 0, 9, 2, 6, 1, 0, 2, 8, 0, 2, 0])

    def test_empty_row_and_no_slots_are_the_number_alone(self):
        given = read("strip 9\n2\n")
        self.assertEqual(answers(given + [4, 0, 1] + [6, 0]), [1, 0, 1, 0, 1, 0])

    def test_diff(self):
        given = read("strip 9\n2\n") + read("strip 9\n2 5\n")
        self.assertEqual(answers(given + [8, 0, 1] + [8, 1, 1]), [1, 0, 1, 1, 5, 1, 2, 0, 5, 0, 1, 0])

    def test_turned_moved_and_part(self):
        given = read("strip 4\n1 3\n1\n")
        made = answers(given + [9, 0] + [10, 0, -3] + [11, 0, 1, 1] + [4, 1, 0] + [4, 2, 0] + [3, 3])
        self.assertEqual(made, [1, 0, 1, 1, 1, 2, 1, 3, 4, 1, 1, 0, 0, 4, 1, 1, 0, 0, 6, 0, 3, 4, 1, 1, 0])

    def test_part_that_is_refused_has_no_list(self):
        self.assertEqual(answers(read("strip 4\n1 3\n1\n") + [11, 0, 1, 2]), [1, 0, 1, -3])

    def test_program_and_short_have_an_empty_list_before_the_bytes(self):
        given = read("strip 4\n2 0 3\n1\n1 0\n")
        self.assertEqual(answers(given + [12, 0]), [1, 0, 12, 9, 0, 9, 128, 131, 2, 128, 131, 1, 128, 1, 0])
        self.assertEqual(answers([15, 4, 4, 128, 128, 1, 0]), [5, 2, 0, 2, 1, 0])
        self.assertEqual(answers([15, 4, 1, 0]), [4, 1, 0, 1, 0])

    def test_busy_has_an_empty_text_behind_its_list(self):
        self.assertEqual(answers([14, 4, 4, 128, 131, 2, 0]), [7, 0, 4, 2, 4, 2, 2, 0])
        self.assertEqual(answers([14, 4, 1, 0]), [7, 0, 4, 0, 0, 0, 0, 0])

    def test_punch(self):
        self.assertEqual(answers([13, 4, 1, 0] + [13, 128, 3, 255, 1, 0] + [4, 1, 0]),
                         [1, 0, 1, 1, 4, 1, 1, 127, 0])

    def test_refusals_of_bytes(self):
        for call in (13, 14, 15):
            self.assertEqual(answers([call, 0, 1, 0]), [1, -1])
            self.assertEqual(answers([call, 4, 65537] + [0] * 65537), [1, -2])
            self.assertEqual(answers([call, 4, 2, 132, 0]), [4, -6, 1, 0, 0])
            self.assertEqual(answers([call, 4, 0]), [4, -6, 1, 0, 0])

    def test_any_call_may_come_first(self):
        for call in ([2, 0], [3, 0], [4, 0, 0], [5, 0], [6, 0], [8, 0, 0], [9, 0], [10, 0, 0], [11, 0, 0, 0], [12, 0]):
            self.assertEqual(answers(call), [1, -4])

    def test_answers_stand_one_behind_another_in_order(self):
        calls = [5, 0] + read("strip 4\n1 2\n") + [5, 0] + read("x") + [4, 0, 0]
        self.assertEqual(answers(calls), [1, -4, 1, 0, 1, 1, 4, -6, 1, 0, 0, 4, 1, 1, 2, 0])

    def test_four_hundred_calls(self):
        self.assertEqual(answers([5, HIGHEST] * 400), [1, -4] * 400)

    def test_given_back_is_a_list_of_whole_numbers(self):
        given_back = answers(EVERY_CALL)
        self.assertIs(type(given_back), list)
        self.assertEqual({type(number) for number in given_back}, {int})

    def test_each_call_takes_just_its_own_numbers(self):
        # A call that took one number too many or too few would lose the calls behind it.
        for call in [read(""), read("strip 1\n"), text(7), size(7), row(7, 7), holes(7), slots(7),
                     fill(0, 7, []), fill(0, 7, [(7, 7, 7)]), diff(7, 7), turned(7), moved(7, 7), moved(7, -7),
                     part(7, 7, 7), program(7), punch(7, []), punch(7, [0]), punch(0, [7, 7]), busy(7, []),
                     busy(7, [0]), busy(0, [7, 7]), short(7, []), short(7, [0]), short(0, [7, 7])]:
            given_back = answers(call + [5, HIGHEST])
            self.assertEqual(given_back[1 + given_back[0]:], [1, -4], call)


class Watched(list):
    """A list that tells every attempt to change it, one that is taken back later too."""

    def refuse(self, *given):
        raise AssertionError("what is handed in was changed")

    append = extend = insert = pop = remove = clear = sort = reverse = refuse
    __setitem__ = __delitem__ = __iadd__ = __imul__ = refuse


class HandedIn(unittest.TestCase):
    def test_it_is_the_same_afterwards(self):
        calls = list(EVERY_CALL)
        answers(calls)
        self.assertEqual(calls, EVERY_CALL)

    def test_it_is_not_changed_for_a_while(self):
        self.assertEqual(answers(Watched(EVERY_CALL)), answers(EVERY_CALL))

    def test_what_is_given_back_is_another_list_each_time(self):
        calls = read("strip 1\n")
        first = answers(calls)
        first.append(5)
        self.assertEqual(calls, read("strip 1\n"))
        self.assertEqual(answers(calls), [1, 0])


class NothingKept(unittest.TestCase):
    def test_each_time_begins_with_no_strips(self):
        answers(read(EXAMPLE))
        self.assertEqual(answers([2, 0]), [1, -4])
        self.assertEqual(answers(read(EXAMPLE)), [1, 0])

    def test_the_same_list_has_the_same_answers(self):
        self.assertEqual(answers(EVERY_CALL), answers(EVERY_CALL))

    def test_strips_of_the_other_calls_are_gone_too(self):
        answers(punch(4, [128, 1, 0]) + turned(0) + moved(0, 1) + part(0, 0, 1))
        for call in (turned(0), moved(0, 1), part(0, 0, 1), program(0), text(0)):
            self.assertEqual(answers(call), [1, -4])
        self.assertEqual(answers(punch(4, [2, 0]) + program(0)), [1, 0, 5, 2, 0, 2, 2, 0])

    def test_a_full_object_does_not_fill_the_next(self):
        self.assertEqual(answers(read("strip 1\n") * 33)[-1], -10)
        self.assertEqual(answers(read("strip 1\n")), [1, 0])


class NothingElseDone(unittest.TestCase):
    def test_it_prints_reads_and_imports_nothing(self):
        refused = mock.Mock(side_effect=AssertionError("not asked for"))
        printed = io.StringIO()
        with contextlib.redirect_stdout(printed), contextlib.redirect_stderr(printed), \
                mock.patch("builtins.open", refused), mock.patch("builtins.input", refused), \
                mock.patch("builtins.__import__", refused):
            answers(EVERY_CALL)
        self.assertEqual(printed.getvalue(), "")

    def test_long_inputs_nest_no_calls(self):
        long_texts = [[48] * 29000, list(b"strip 128\n") + [49] * 28900, list(b"strip 128\n1") + [32] * 28900,
                      list(b"strip 128\n" + b"1 5\n1 6\n" * 128), list(b"strip 128\n" + b"1\n" * 14000)]
        for given in long_texts:
            self.assertEqual(answers(read(given))[0] in (1, 4), True)
        for given in [[128] * 29000, [128] * 28999 + [0], [0] * 29000, [1] * 29000, [128, 1] * 256 + [0]]:
            self.assertEqual(len(answers(punch(1, given) + busy(1, given) + short(1, given))) > 3, True)
